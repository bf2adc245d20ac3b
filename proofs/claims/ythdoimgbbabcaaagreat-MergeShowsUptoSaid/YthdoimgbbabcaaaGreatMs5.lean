import Derived.Test.YthdoimgbbabcaaaGreatMs4
import Derived.RangeFuncCalls
import Derived.OwnWalkIn
import Derived.Test.YthdoimgbbabcaaaGreatMs1
import Derived.Test.YthdoimgbbabcaaaGreatRows
import Derived.Shelf.Strings.Builder1
import Derived.Shelf.Strings.Builder2
import Derived.Shelf.Strings.OnBuilder
import Derived.Shelf.Small.Strs
import Derived.Shelf.Small.Wraps
import Derived.Shelf.Strings.Search1
import Derived.Shelf.Strings.Search2
import Derived.Shelf.Sort.Plain
import Derived.Shelf.Strings.Prefix
import Derived.Shelf.Slices.Turned
import Derived.Ground.Names2Prog
import Derived.Shelf.Slices.Clone
import Derived.Shelf.Slices.CompactS
import Derived.Shelf.Slices.Cells
import Derived.Shelf.Slices.In.SortNone
import Derived.Ground.SlgnProg
import Derived.Shelf.SlicesE.Clone
import Derived.Test.YthdoimgbbabcaaaGreatProg
import Derived.Sort.OwnSorted
import Derived.Lib.RowBridge
import Derived.DeepKeys4

namespace Go.Proofs.YthdoimgbbabcaaaGreat
open Go

def lastOkP (md:Region.Mode) (ops:Array Oper) (L:Nat):Bool :=
 decide (L < ops.size)&&(List.range ops.size).all fun j=>((ops[j]?).map (·.after.all fun e=>!Region.binds md e||(decide (e.on < j)&&e.on != L))).getD false&&(j==L||((ops[L]?).map (·.after.any fun e=>Region.binds md e&&(e.on==j||((ops[e.on]?).map (·.after.any fun e'=>Region.binds md e'&&e'.on==j)).getD false))).getD false)
def ClosedP (md:Region.Mode) (ops:Array Oper) (listed:Array Bool):Prop:=∀k o,ops[k]?=some o→listed.getD k false=true→∀e∈o.after,Region.binds md e=true→listed.getD e.on false=true
section
variable {P : Program} {ops : Array Oper} {Q : Exit → Act → World → Prop} {S : World → Prop} {md : Region.Mode}
theorem gd_mono {listed:Array Bool} {k:Nat} (i:Nat) (h:listed.getD k false=true):(listed.setIfInBounds i true).getD k false=true:=by
 rw [Array.getD_eq_getD_getElem?] at h ⊢
 rw [Array.getElem?_setIfInBounds]
 split
 ·rename_i e
  subst e
  split
  ·rfl
  ·rename_i hn
   rw [Array.getElem?_eq_none (by omega)] at h
   exact h
 ·exact h
theorem ClosedP.zero (md:Region.Mode) (ops:Array Oper):ClosedP md ops (Array.replicate ops.size false):=fun k o _ h=>by
 rw [Array.getD_eq_getD_getElem?,Array.getElem?_replicate] at h
 split at h <;> cases h
theorem ClosedP.set {listed:Array Bool} {i:Nat} (h:ClosedP md ops listed) (hi:i∈Region.ready md ops listed):ClosedP md ops (listed.setIfInBounds i true):=fun k o ho hk e he hb=>by
 by_cases e':k=i
 ·subst e'
  obtain ⟨_,_,o',ho',h3⟩:=mem_ready.1 hi
  rw [ho] at ho'
  cases ho'
  exact gd_mono _ (h3 e he hb)
 ·refine gd_mono _ (h k o ho ?_ e he hb)
  rw [Array.getD_eq_getD_getElem?,Array.getElem?_setIfInBounds_ne (fun h=>e' h.symm)] at hk
  rw [Array.getD_eq_getD_getElem?]
  exact hk
theorem lastOkP_parts {L:Nat} (hok:lastOkP md ops L=true):L < ops.size∧(∀j o,ops[j]?=some o→∀e∈o.after,Region.binds md e=true→e.on < j∧e.on≠L)∧∀j,j < ops.size→j≠L→∀o,ops[L]?=some o→(∃e∈o.after,Region.binds md e=true∧e.on=j)∨(∃e∈o.after,Region.binds md e=true∧∃o',ops[e.on]?=some o'∧∃e'∈o'.after,Region.binds md e'=true∧e'.on=j):=by
 unfold lastOkP at hok
 rw [Bool.and_eq_true,decide_eq_true_eq,List.all_eq_true] at hok
 obtain ⟨hL,hall⟩:=hok
 refine ⟨hL,fun j o ho e he hb=>?_,fun j hj hne o ho=>?_⟩
 ·have hj:=(Array.getElem?_eq_some_iff.1 ho).1
  have h1:=hall j (List.mem_range.2 hj)
  rw [Bool.and_eq_true,ho] at h1
  have h2:=h1.1
  simp only [Option.map_some,Option.getD_some] at h2
  have h3:=Array.all_eq_true_iff_forall_mem.1 h2 e he
  simpa [hb] using h3
 ·have h1:=hall j (List.mem_range.2 hj)
  rw [Bool.and_eq_true,ho] at h1
  have h2:=h1.2
  rw [Bool.or_eq_true] at h2
  rcases h2 with h2|h2
  ·exact absurd (by simpa using h2) hne
  ·simp only [Option.map_some,Option.getD_some] at h2
   obtain ⟨i,hi,h3⟩:=Array.any_eq_true.1 h2
   rw [Bool.and_eq_true,Bool.or_eq_true,beq_iff_eq] at h3
   obtain ⟨h3,h4|h4⟩:=h3
   ·exact .inl ⟨_,Array.getElem_mem hi,h3,h4⟩
   ·refine .inr ⟨_,Array.getElem_mem hi,h3,?_⟩
    cases ho':ops[o.after[i].on]? with
    | none=>rw [ho'] at h4;cases h4
    | some o' =>
     rw [ho'] at h4
     simp only [Option.map_some,Option.getD_some] at h4
     obtain ⟨i',hi',h5⟩:=Array.any_eq_true.1 h4
     rw [Bool.and_eq_true,beq_iff_eq] at h5
     exact ⟨o',rfl,_,Array.getElem_mem hi',h5.1,h5.2⟩

theorem ready_lastP {L:Nat} (hok:lastOkP md ops L=true) {listed:Array Bool} (hsz:listed.size=ops.size) (hcl:ClosedP md ops listed) (hU:∃j,j < ops.size∧(j≠L∧listed.getD j true=false)) :
  (∀i,i∈Region.ready md ops listed→i≠L∧i∈Region.ready md ops (listed.setIfInBounds L true))∧Region.ready md ops listed≠[]:=by
 obtain ⟨hL,hE,hW⟩:=lastOkP_parts hok
 have hLs:L < listed.size:=by omega
 refine ⟨fun i hi=>?_,fun hnil=>?_⟩
 ·rw [mem_ready] at hi
  obtain ⟨h1,h2,o,ho,h3⟩:=hi
  have hne:i≠L:=by
   intro e
   subst e
   obtain ⟨j,hj,hjne,hjl⟩:=hU
   rw [gd_tf (by omega)] at hjl
   rcases hW j hj hjne o ho with ⟨e,he,hb,rfl⟩|⟨e,he,hb,o',ho',e',he',hb',rfl⟩
   ·have:=h3 e he hb
    rw [hjl] at this
    cases this
   ·have:=hcl e.on o' ho' (h3 e he hb) e' he' hb'
    rw [hjl] at this
    cases this
  refine ⟨hne,mem_ready.2 ⟨h1,by rw [gd_set hLs,if_neg hne];exact h2,o,ho,fun e he hb=>?_⟩⟩
  rw [gd_set hLs]
  split
  ·rfl
  ·exact h3 e he hb
 ·obtain ⟨j,hj,⟨hjne,hjl⟩,hmin⟩:=least hU
  have:j∈Region.ready md ops listed:=by
   refine mem_ready.2 ⟨hj,hjl,ops[j],Array.getElem?_eq_getElem hj,fun e he hb=>?_⟩
   obtain ⟨h1,h2⟩:=hE j _ (Array.getElem?_eq_getElem hj) e he hb
   have h3:=hmin e.on h1
   have h4:listed.getD e.on true=true:=by
    cases hq:listed.getD e.on true with
    | true=>rfl
    | false=>exact absurd ⟨h2,hq⟩ h3
   rw [←gd_tf (by omega)]
   exact h4
  rw [hnil] at this
  cases this
theorem wpAny_fullP {L:Nat} (hok:lastOkP md ops L=true) {listed:Array Bool} {a:Act} {w:World} (k:Nat) (hsz:listed.size=ops.size) (hnl:listed.getD L true=false) (hU:¬ ∃j,j < ops.size∧(j≠L∧listed.getD j true=false)) (h:postL P ops Q L .normal a w) :
  wpAny P md ops Q (k+1) listed a w:=by
 obtain ⟨hL,hE,hW⟩:=lastOkP_parts hok
 have hLs:L < listed.size:=by omega
 have hlisted:∀j,j < ops.size→j≠L→listed.getD j true=true:=by
  intro j hj hne
  cases hq:listed.getD j true with
  | true=>rfl
  | false=>exact absurd ⟨j,hj,hne,hq⟩ hU
 have hmem:L∈Region.ready md ops listed:=by
  refine mem_ready.2 ⟨hL,hnl,ops[L],Array.getElem?_eq_getElem hL,fun e he hb=>?_⟩
  obtain ⟨h1,h2⟩:=hE L _ (Array.getElem?_eq_getElem hL) e he hb
  rw [←gd_tf (by omega)]
  exact hlisted _ (by omega) h2
 have hnil:Region.ready md ops (listed.setIfInBounds L true)=[]:=by
  refine List.eq_nil_iff_forall_not_mem.2 fun i hi=>?_
  obtain ⟨h1,h2,_⟩:=mem_ready.1 hi
  rw [gd_set hLs] at h2
  split at h2
  ·cases h2
  ·rename_i hne
   rw [hlisted i h1 hne] at h2
   cases h2
 refine ⟨fun hr=>?_,fun i hi=>?_⟩
 ·rw [hr] at hmem
  cases hmem
 ·obtain ⟨h1,h2,_⟩:=mem_ready.1 hi
  have hiL:i=L:=by
   rcases Nat.decEq i L with hne|he
   ·rw [hlisted i h1 hne] at h2
    cases h2
   ·exact he
  subst hiL
  refine wpOp_mono (fun a' w' hq=>?_) h
  cases k with
  | zero=>exact ⟨hnil,hq⟩
  | succ k=>exact ⟨fun _=>hq,fun i hi=>by rw [hnil] at hi;cases hi⟩

theorem wpAny_lastP {L:Nat} (hok:lastOkP md ops L=true):∀(fuel:Nat) (listed:Array Bool) (a:Act) (w:World),listed.size=ops.size→ClosedP md ops listed→listed.getD L true=false→wpAnyH P md ops (postL P ops Q L) S fuel (listed.setIfInBounds L true) a w→wpAny P md ops Q (fuel+1) listed a w:=by
 have hL:=(lastOkP_parts hok).1
 intro fuel
 induction fuel with
 | zero =>
  intro listed a w hsz hcl hnl H
  by_cases hU:∃j,j < ops.size∧(j≠L∧listed.getD j true=false)
  ·obtain ⟨h1,h2⟩:=ready_lastP hok hsz hcl hU
   refine absurd (List.eq_nil_iff_forall_not_mem.2 fun i hi=>?_) h2
   have:=(h1 i hi).2
   rw [H.1] at this
   cases this
  ·exact wpAny_fullP hok 0 hsz hnl hU H.2
 | succ fuel ih =>
  intro listed a w hsz hcl hnl H
  by_cases hU:∃j,j < ops.size∧(j≠L∧listed.getD j true=false)
  ·obtain ⟨hready,hsome⟩:=ready_lastP hok hsz hcl hU
   refine ⟨fun h=>absurd h hsome,fun i hi=>?_⟩
   obtain ⟨hne,hi2⟩:=hready i hi
   refine wpOp_mono (fun a' w' hk=>?_) (wpOp_post postL_post (H.2 i hi2))
   refine ih _ a' w' (by simp [hsz]) (hcl.set hi) (by rw [gd_set (by have:=(mem_ready.1 hi).1;omega),if_neg (fun e=>hne e.symm)];exact hnl) ?_
   rw [Array.setIfInBounds_comm _ _ hne]
   exact hk.2
  ·refine wpAny_fullP hok _ hsz hnl hU (H.1 ?_)
   refine List.eq_nil_iff_forall_not_mem.2 fun i hi=>?_
   obtain ⟨h1,h2,_⟩:=mem_ready.1 hi
   rw [gd_set (by omega)] at h2
   split at h2
   ·cases h2
   ·rename_i hne
    exact hU ⟨i,h1,hne,h2⟩

theorem wp_region_planP {id : Nat} {a : Act} {w : World} (S : World → Prop) (ps : List (Nat × Bool)) (L : Nat) {l : List (Oper × Bool)} (hm : P.follows .mixedOrders = true) (hlast : lastOkP .any ops L = true) (hok : planOkN .any ops (needsN .any ops) (withN 0 L) ps = true) (hn : Region.noSelect ops = true) (hlen : decide (ps.length + 1 ≤ ops.size) = true)
  (hl:planOps ops ps=l) (hQ:∀c a k v w,Q (.panic c) (Act.put a (some k) v) w→Q (.panic c) a w) (hS:S w.drew) (h:S w.drew→wpPlan P ops (postL P ops Q L) S l a w.drew):(Code.region id ops true).wp P Q a w:=by
 subst hl
 have hlen':=of_decide_eq_true hlen
 have hok:=planOk_fastL (lastOkP_parts hlast).1 hok
 refine wp_region_any hm ?_
 obtain ⟨k,hk⟩:∃k,ops.size=k+1:=⟨ops.size - 1,by omega⟩
 have hLs:=(lastOkP_parts hlast).1
 have H:wpAny P .any ops Q (k+1) (Array.replicate ops.size false) a w.drew:=wpAny_lastP (S:=S) hlast k _ a w.drew (by simp) (ClosedP.zero _ _) (by rw [Array.getD_eq_getD_getElem?,Array.getElem?_replicate,if_pos hLs];rfl) (wpAnyH_plan (S:=S) (Q:=postL P ops Q L) hn (panic_put (Q:=postL P ops Q L) fun c a k v w h=>hQ c a k v w h) ps k _ a w.drew hok (by omega) hS (h hS))
 rw [←hk] at H
 exact H
end
end Go.Proofs.YthdoimgbbabcaaaGreat

namespace Go.Proofs.YthdoimgbbabcaaaGreat
open Go.RowKit Go.Shelf Plain
attribute [local go_sem] Oper.semAt_some

section
variable {B g m1 m2 : Nat} {ns : List NodV} {U V W : World}
end
set_option maxRecDepth 100000 in
theorem entw_agg:∀w,(isAgg 42).run Tryz.prog w=.ok true w:=fun w=>by kernel_rfl
set_option maxRecDepth 100000 in
theorem entw_size:∀w,(Go.sizeOf 42).run Tryz.prog w=.ok 3 w:=fun w=>by kernel_rfl
theorem cellsE_one (x:EntV):∀v∈cellsE x,v.oneCell'=true:=by simp [cellsE,Value.oneCell']
theorem below_stored' {W2 W3:World} {o:Obj} (hg:(W2.alloc o).grownBy W3 (some W2.heap.size)):Below W2.heap.size W2 W3:=(below_new (below_self W2) o).grown hg (by simp) (fun g hg=>by have:=Option.some.inj hg;omega)
end Go.Proofs.YthdoimgbbabcaaaGreat

namespace Go.Proofs.YthdoimgbbabcaaaGreat
open Go.RowKit Go.Shelf Plain
attribute [local go_sem] Oper.semAt_some

theorem TurnW.keeps {B g b n:Nat} {A C:World} (h:TurnW B g b A C) (hg:g < n) (hb:b < n):KeepsFrom n A C:=⟨h.size,fun k o hn hk hc=>h.kept k o hk (.inr ⟨by omega,by omega,fun arr t fr e=>by rw [e] at hc;cases hc⟩)⟩
end Go.Proofs.YthdoimgbbabcaaaGreat

namespace Go.Proofs.YthdoimgbbabcaaaGreat
open Go.RowKit Go.Shelf Plain

def prC (q:Int×Int):List Value:=[.int .i64 q.1,.int .i64 q.2]
def prEn : Enc (Int × Int) where
 k:=2
 R:=fun _ _ cs x=>cs=prC x
 len:=fun h=>by rw [h];rfl
 one:=fun h v hv=>by
  rw [h] at hv
  simp only [prC,List.mem_cons,List.not_mem_nil,or_false] at hv
  rcases hv with rfl|rfl <;> rfl
 mono:=fun h _ _=>h
def flatR (l:List (Int×Int)):List Value:=(l.map prC).flatten
theorem flatR_snoc (l:List (Int×Int)) (q:Int×Int):flatR (l++[q])=flatR l++prC q:=by simp [flatR]
def zpr:Value:=.agg #[.int .i64 0,.int .i64 0]
end Go.Proofs.YthdoimgbbabcaaaGreat

namespace Go.Proofs.YthdoimgbbabcaaaGreat.Plain
def letB (x:Nat):Bool:=decide ((97≤x∧x≤122)∨(48≤x∧x≤57)∨x=46∨x=95∨x=45)
def nameB (l:List UInt8):Bool:=(decide (1≤l.length∧l.length≤12)&&(!(l==[46])&&!(l==[46,46])))&&l.all fun x=>letB x.toNat
theorem all_take_succ {l:List UInt8} {p:UInt8→Bool} {k:Nat} (h:k < l.length):(l.take (k+1)).all p=((l.take k).all p&&p l[k]):=by
 rw [List.take_succ_eq_append_getElem h,List.all_append]
 simp
theorem all_false {l:List UInt8} {p:UInt8→Bool} {k:Nat} (h:k < l.length) (hp:p l[k]=false):l.all p=false:=by
 rw [List.all_eq_false]
 exact ⟨l[k],List.getElem_mem h,by simp [hp]⟩
theorem nameB_len {l:List UInt8} (h:nameB l=true):1≤l.length∧l.length≤12:=by
 simp only [nameB,Bool.and_eq_true,decide_eq_true_eq] at h
 exact h.1.1
end Go.Proofs.YthdoimgbbabcaaaGreat.Plain

namespace Go.Proofs.YthdoimgbbabcaaaGreat
open Go.RowKit Plain
def st (l:List UInt8):Value:=.string ⟨l.toArray⟩
theorem add_lists {P:Program} {x y z:List UInt8} (h:x.length+y.length≤9223372036854775807) (hz:x++y=z) (W:World):(Op.stringOp .add ⟨x.toArray⟩ ⟨y.toArray⟩).run P W=.ok (.string ⟨z.toArray⟩) W:=by
 subst hz
 rw [run_string_add_sum W _ _ (by simp [ByteArray.size];omega),ByteArray.mk_append_mk]
theorem ret_bool {a b:Bool} (h:a=b):Ending.returned (.bool a)=.returned (.bool b):=by rw [h]

set_option maxHeartbeats 400000 in
theorem Rletter_any (x:Nat) (hx:x < 256) (w:World) :
  Calls Tryz.prog 161 #[.int .u8 x] w fun e w'=>e=.returned (.bool (letB x))∧w=w':=by
 go_enter Tryz.func161,Tryz.ntmps161
 go_wp2
 all_goals
  go_ret
  refine ⟨ret_bool ?_,rfl⟩
  rw [Bool.eq_iff_iff]
  simp [letB]
  omega
theorem Rletter_b {x:Nat} {b:Bool} (hx:x < 256) (hb:letB x=b) (w:World) :
  Calls Tryz.prog 161 #[.int .u8 x] w fun e w'=>e=.returned (.bool b)∧w=w':=by
 have:=Rletter_any x hx w;rw [hb] at this;exact this

set_option maxHeartbeats 400000 in
theorem RNRight_any (l:List UInt8) (w:World) (hl:l.length≤140737488355328) :
  Calls Tryz.prog 137 #[st l] w fun e w'=>e=.returned (.bool (nameB l))∧w=w':=by
 unfold st
 by_cases h1:l.length < 1
 ·have hr:nameB l=false:=by
   have:decide (1≤l.length∧l.length≤12)=false:=by simp;omega
   simp [nameB,this]
  rw [hr]
  clear hr
  obtain rfl:l=[]:=List.eq_nil_of_length_eq_zero (by omega)
  go_enter Tryz.func137,Tryz.ntmps137
  go_wp2
  go_ret
  exact ⟨rfl,rfl⟩
 by_cases h2:12 < l.length
 ·have hr:nameB l=false:=by
   have:decide (1≤l.length∧l.length≤12)=false:=by simp;omega
   simp [nameB,this]
  rw [hr]
  clear hr
  have d1:decide ((l.length:Int) < 1)=false:=by simp;omega
  have d2:decide ((12:Int) < (l.length:Int))=true:=by simp;omega
  go_enter Tryz.func137,Tryz.ntmps137
  go_wp2
  go_ret
  exact ⟨rfl,rfl⟩
 by_cases h3:l=[46]
 ·subst h3
  go_enter Tryz.func137,Tryz.ntmps137
  go_wp2
  go_ret
  exact ⟨rfl,rfl⟩
 by_cases h4:l=[46,46]
 ·subst h4
  go_enter Tryz.func137,Tryz.ntmps137
  go_wp2
  go_ret
  exact ⟨rfl,rfl⟩
 have d1:decide ((l.length:Int) < 1)=false:=by simp;omega
 have d2:decide ((12:Int) < (l.length:Int))=false:=by simp;omega
 have d3:(l==[46])=false:=by simpa using h3
 have d4:(l==[46,46])=false:=by simpa using h4
 have hr:nameB l=l.all fun x=>letB x.toNat:=by
  have:decide (1≤l.length∧l.length≤12)=true:=by simp;omega
  simp [nameB,this,d3,d4]
 rw [hr]
 obtain ⟨r,hre⟩:∃r,(l.all fun x=>letB x.toNat)=r:=⟨_,rfl⟩
 rw [hre]
 have HR:=hide hre
 clear hr hre h3 h4
 go_enter Tryz.func137,Tryz.ntmps137
 go_wp2_with fail
 clear d1 d2 d3 d4
 go_loop [3] (fun i=>∃k:Nat,k≤l.length∧i=.int .i64 k∧((l.take k).all fun x=>letB x.toNat)=true) (fun i=>l.length - (intOf i).toNat)
 case atStart=>exact ⟨0,Nat.zero_le _,rfl,rfl⟩
 case round =>
  obtain ⟨k,hk,rfl,hall⟩:=hrel
  have HALL:=hide hall
  clear hall
  by_cases hlt:k < l.length
  ·have hb:=l[k].toNat_lt
   cases hb2:letB l[k].toNat with
   | true =>
    have HB:=hide hb2
    clear hb2
    go_wp2_with fail
    refine (Rletter_b hb HB.out _).mono ?_
    rintro e w' ⟨rfl,rfl⟩
    go_wp2_with fail
    go_round
    case rel=>exact ⟨k+1,by omega,by go_num,by rw [all_take_succ hlt,HALL.out,HB.out];rfl⟩
    case measure=>simp [intOf];omega
   | false =>
    have hrf:r=false:=by rw [←HR.out];exact all_false hlt hb2
    have HRF:=hide hrf
    have HB:=hide hb2
    clear hb2 hrf
    go_wp2_with fail
    refine (Rletter_b hb HB.out _).mono ?_
    rintro e w' ⟨rfl,rfl⟩
    go_wp2_with fail
    go_ret
    rw [HRF.out]
    exact ⟨rfl,rfl⟩
  ·have hrt:r=true:=by
    rw [←HR.out]
    have:=HALL.out
    rwa [List.take_of_length_le (by omega)] at this
   have HRT:=hide hrt
   clear hrt
   go_wp2
   go_ret
   rw [HRT.out]
   exact ⟨rfl,rfl⟩
theorem RNRight_b {l:List UInt8} {b:Bool} (h:nameB l=b) (w:World) (hl:l.length≤140737488355328) :
  Calls Tryz.prog 137 #[st l] w fun e w'=>e=.returned (.bool b)∧w=w':=by
 have:=RNRight_any l w hl;rw [h] at this;exact this
end Go.Proofs.YthdoimgbbabcaaaGreat

namespace Go.Proofs
open Go.Shelf
def Tryz.lays156_ren:Go.Shelf.Ren:=⟨fun|156=>85|165=>133|166=>134|169=>135|240=>159|241=>160|276=>185|277=>186|n=>n,fun|31=>54|9=>9|3=>3|4=>4|0=>0|20=>20|72=>173|76=>177|70=>171|37=>31|75=>176|127=>204|164=>229|5=>5|80=>179|n=>n,fun|n=>n⟩
theorem Tryz.lays156 : Go.Proofs.Lays.n156 Tryz.prog Tryz.lays156_ren := {
 mixed:=by kernel_rfl
 f156:=Tryz.func85.trans (congrArg some (by kernel_rfl))
 f165:=Tryz.func133.trans (congrArg some (by kernel_rfl))
 f166:=Tryz.func134.trans (congrArg some (by kernel_rfl))
 f169:=Tryz.func135.trans (congrArg some (by kernel_rfl))
 f240:=Tryz.func159.trans (congrArg some (by kernel_rfl))
 f241:=Tryz.func160.trans (congrArg some (by kernel_rfl))
 f276:=Tryz.func185.trans (congrArg some (by kernel_rfl))
 f277:=Tryz.func186.trans (congrArg some (by kernel_rfl))
 t0:=Tryz.underlying0
 a0:=Tryz.isAgg0
 z0:=Tryz.sizeOf0
 v0:=Tryz.zeroValue0
 t3:=Tryz.underlying3
 a3:=Tryz.isAgg3
 z3:=Tryz.sizeOf3
 v3:=Tryz.zeroValue3
 t4:=Tryz.underlying4
 a4:=Tryz.isAgg4
 z4:=Tryz.sizeOf4
 v4:=Tryz.zeroValue4
 t9:=Tryz.underlying9
 a9:=Tryz.isAgg9
 z9:=Tryz.sizeOf9
 v9:=Tryz.zeroValue9
 t20:=Tryz.underlying20
 a20:=Tryz.isAgg20
 z20:=Tryz.sizeOf20
 v20:=Tryz.zeroValue20
 t31:=Tryz.underlying54
 a31:=Tryz.isAgg54
 z31:=Tryz.sizeOf54
 v31:=Tryz.zeroValue54
 t37:=Tryz.underlying31
 a37:=Tryz.isAgg31
 z37:=Tryz.sizeOf31
 v37:=Tryz.zeroValue31
 t70:=Tryz.underlying171
 a70:=Tryz.isAgg171
 z70:=Tryz.sizeOf171
 v70:=Tryz.zeroValue171
 t72:=Tryz.underlying173
 a72:=Tryz.isAgg173
 z72:=Tryz.sizeOf173
 v72:=Tryz.zeroValue173
 t75:=Tryz.underlying176
 a75:=Tryz.isAgg176
 z75:=Tryz.sizeOf176
 v75:=Tryz.zeroValue176
 t76:=Tryz.underlying177
 a76:=Tryz.isAgg177
 z76:=Tryz.sizeOf177
 v76:=Tryz.zeroValue177
 t127:=Tryz.underlying204
 a127:=Tryz.isAgg204
 z127:=Tryz.sizeOf204
 v127:=Tryz.zeroValue204
 t164:=Tryz.underlying229
 a164:=Tryz.isAgg229
 z164:=Tryz.sizeOf229
 v164:=Tryz.zeroValue229}
theorem Tryz.Builder_Extra_156 : Builder.Extra Tryz.prog Tryz.lays156_ren := {
 sizeBuilder:=by kernel_rfl
 liesBuilder:=by kernel_rfl
 t5:=Tryz.underlying5
 a5:=Tryz.isAgg5
 z5:=Tryz.sizeOf5
 v5:=Tryz.zeroValue5
 infoByte:=by kernel_rfl
 cellsByte:=by kernel_rfl
 sizeByte:=by kernel_rfl
 neB5:=by decide}
open Go.RowKit in
theorem Tryz.strings_Join_none (a:Option Addr) (c:Nat) (sep:ByteArray) (w:World) :
  Calls Tryz.prog 85 #[.slice a 0 c,.string sep] w fun e w'=>e=.returned (.string ⟨#[]⟩)∧w'=w:=Any.strings_Join_none Tryz.lays156 Tryz.Builder_Extra_156 a c sep w
open Go.RowKit in
theorem Tryz.strings_Join (bk o c:Nat) (xs:List ByteArray) (sep:ByteArray) (w:World) (hcells:∀(j:Nat) x,xs[j]?=some x→w.cell? ⟨bk,o+j,none⟩=some (.string x)) (hbk:bk < w.heap.size) (hN:xs.length≤140737488355328) (hcap:xs.length≤c) (hlen:(Lib.join (xs.map (·.data.toList)) sep.data.toList).length≤140737488355328) :
  Calls Tryz.prog 85 #[.slice (some ⟨bk,o,none⟩) xs.length c,.string sep] w fun e w'=>e=.returned (.string ⟨(Lib.join (xs.map (·.data.toList)) sep.data.toList).toArray⟩)∧Below w.heap.size w w':=Any.strings_Join Tryz.lays156 Tryz.Builder_Extra_156 bk o c xs sep w hcells hbk hN hcap hlen
def Tryz.lays137_ren:Go.Shelf.Ren:=⟨fun|137=>166|217=>189|266=>202|n=>n,fun|9=>9|5=>5|3=>3|n=>n,fun|n=>n⟩
theorem Tryz.lays137 : Go.Proofs.Lays.n137 Tryz.prog Tryz.lays137_ren := {
 mixed:=by kernel_rfl
 f137:=Tryz.func166.trans (congrArg some (by kernel_rfl))
 f217:=Tryz.func189.trans (congrArg some (by kernel_rfl))
 f266:=Tryz.func202.trans (congrArg some (by kernel_rfl))
 t3:=Tryz.underlying3
 a3:=Tryz.isAgg3
 z3:=Tryz.sizeOf3
 v3:=Tryz.zeroValue3
 t5:=Tryz.underlying5
 a5:=Tryz.isAgg5
 z5:=Tryz.sizeOf5
 v5:=Tryz.zeroValue5
 t9:=Tryz.underlying9
 a9:=Tryz.isAgg9
 z9:=Tryz.sizeOf9
 v9:=Tryz.zeroValue9}
open Go.RowKit in
theorem Tryz.strings_IndexByte (s:ByteArray) (c:Int) (w:World) :
  Calls Tryz.prog 166 #[.string s,.int .u8 c] w fun e w'=>e=.returned (.int .i64 (Lib.indexByte s.data.toList c.toNat.toUInt8))∧w'=w:=Any.strings_IndexByte Tryz.lays137 s c w
def Tryz.lays103_ren:Go.Shelf.Ren:=⟨fun|103=>140|210=>163|206=>187|n=>n,fun|9=>9|4=>4|24=>185|3=>3|n=>n,fun|n=>n⟩
theorem Tryz.lays103 : Go.Proofs.Lays.n103 Tryz.prog Tryz.lays103_ren := {
 mixed:=by kernel_rfl
 f103:=Tryz.func140.trans (congrArg some (by kernel_rfl))
 f206:=Tryz.func187.trans (congrArg some (by kernel_rfl))
 f210:=Tryz.func163.trans (congrArg some (by kernel_rfl))
 t3:=Tryz.underlying3
 a3:=Tryz.isAgg3
 z3:=Tryz.sizeOf3
 v3:=Tryz.zeroValue3
 t4:=Tryz.underlying4
 a4:=Tryz.isAgg4
 z4:=Tryz.sizeOf4
 v4:=Tryz.zeroValue4
 t9:=Tryz.underlying9
 a9:=Tryz.isAgg9
 z9:=Tryz.sizeOf9
 v9:=Tryz.zeroValue9
 t24:=Tryz.underlying185
 a24:=Tryz.isAgg185
 z24:=Tryz.sizeOf185
 v24:=Tryz.zeroValue185}
open Go.RowKit in
theorem Tryz.strings_CutPrefix (s p:ByteArray) (w:World) :
  Calls Tryz.prog 140 #[.string s,.string p] w fun e w'=>e=.returned (.tuple #[.string ⟨(Lib.trimPrefix s.data.toList p.data.toList).toArray⟩,.bool (Lib.hasPrefix s.data.toList p.data.toList)])∧w'=w:=Any.strings_CutPrefix Tryz.lays103 s p w
def Tryz.lays219_ren:Go.Shelf.Ren:=⟨fun|219=>188|217=>189|225=>199|224=>200|267=>201|266=>202|314=>204|n=>n,fun|9=>9|3=>3|4=>4|5=>5|46=>199|146=>246|51=>226|n=>n,fun|1=>0|n=>n⟩
theorem Tryz.lays219 : Go.Proofs.Lays.n219 Tryz.prog Tryz.lays219_ren := {
 mixed:=by kernel_rfl
 f217:=Tryz.func189.trans (congrArg some (by kernel_rfl))
 f219:=Tryz.func188.trans (congrArg some (by kernel_rfl))
 f224:=Tryz.func200.trans (congrArg some (by kernel_rfl))
 f225:=Tryz.func199.trans (congrArg some (by kernel_rfl))
 f266:=Tryz.func202.trans (congrArg some (by kernel_rfl))
 f267:=Tryz.func201.trans (congrArg some (by kernel_rfl))
 f314:=Tryz.func204.trans (congrArg some (by kernel_rfl))
 t3:=Tryz.underlying3
 a3:=Tryz.isAgg3
 z3:=Tryz.sizeOf3
 v3:=Tryz.zeroValue3
 t4:=Tryz.underlying4
 a4:=Tryz.isAgg4
 z4:=Tryz.sizeOf4
 v4:=Tryz.zeroValue4
 t5:=Tryz.underlying5
 a5:=Tryz.isAgg5
 z5:=Tryz.sizeOf5
 v5:=Tryz.zeroValue5
 t9:=Tryz.underlying9
 a9:=Tryz.isAgg9
 z9:=Tryz.sizeOf9
 v9:=Tryz.zeroValue9
 t46:=Tryz.underlying199
 a46:=Tryz.isAgg199
 z46:=Tryz.sizeOf199
 v46:=Tryz.zeroValue199
 t51:=Tryz.underlying226
 a51:=Tryz.isAgg226
 z51:=Tryz.sizeOf226
 v51:=Tryz.zeroValue226
 t146:=Tryz.underlying246
 a146:=Tryz.isAgg246
 z146:=Tryz.sizeOf246
 v146:=Tryz.zeroValue246
 g1:=by kernel_rfl}
open Go.RowKit Go.Lib in
theorem Tryz.stringslite_Index_one (s:ByteArray) (c:UInt8) (w:World) :
  Calls Tryz.prog 188 #[.string s,.string ⟨#[c]⟩] w fun e w'=>e=.returned (.int .i64 (Lib.indexByte s.data.toList c))∧w'=w:=Any.stringslite_Index_one Tryz.lays219 s c w
def Tryz.lays190_ren:Go.Shelf.Ren:=⟨fun|190=>126|125=>154|258=>153|128=>183|129=>184|302=>174|303=>175|304=>176|305=>177|306=>178|307=>179|308=>180|309=>181|310=>182|333=>193|329=>194|330=>195|334=>196|335=>197|336=>198|344=>203|n=>n,fun|31=>54|9=>9|3=>3|46=>199|0=>0|51=>226|53=>228|4=>4|183=>218|182=>217|131=>223|5=>5|218=>236|222=>240|228=>243|229=>244|n=>n,fun|n=>n⟩
theorem Tryz.lays190 : Go.Proofs.Lays.n190 Tryz.prog Tryz.lays190_ren := {
 mixed:=by kernel_rfl
 f125:=Tryz.func154.trans (congrArg some (by kernel_rfl))
 f128:=Tryz.func183.trans (congrArg some (by kernel_rfl))
 f129:=Tryz.func184.trans (congrArg some (by kernel_rfl))
 f190:=Tryz.func126.trans (congrArg some (by kernel_rfl))
 f258:=Tryz.func153.trans (congrArg some (by kernel_rfl))
 f302:=Tryz.func174.trans (congrArg some (by kernel_rfl))
 f303:=Tryz.func175.trans (congrArg some (by kernel_rfl))
 f304:=Tryz.func176.trans (congrArg some (by kernel_rfl))
 f305:=Tryz.func177.trans (congrArg some (by kernel_rfl))
 f306:=Tryz.func178.trans (congrArg some (by kernel_rfl))
 f307:=Tryz.func179.trans (congrArg some (by kernel_rfl))
 f308:=Tryz.func180.trans (congrArg some (by kernel_rfl))
 f309:=Tryz.func181.trans (congrArg some (by kernel_rfl))
 f310:=Tryz.func182.trans (congrArg some (by kernel_rfl))
 f329:=Tryz.func194.trans (congrArg some (by kernel_rfl))
 f330:=Tryz.func195.trans (congrArg some (by kernel_rfl))
 f333:=Tryz.func193.trans (congrArg some (by kernel_rfl))
 f334:=Tryz.func196.trans (congrArg some (by kernel_rfl))
 f335:=Tryz.func197.trans (congrArg some (by kernel_rfl))
 f336:=Tryz.func198.trans (congrArg some (by kernel_rfl))
 f344:=Tryz.func203.trans (congrArg some (by kernel_rfl))
 t0:=Tryz.underlying0
 a0:=Tryz.isAgg0
 z0:=Tryz.sizeOf0
 v0:=Tryz.zeroValue0
 t3:=Tryz.underlying3
 a3:=Tryz.isAgg3
 z3:=Tryz.sizeOf3
 v3:=Tryz.zeroValue3
 t4:=Tryz.underlying4
 a4:=Tryz.isAgg4
 z4:=Tryz.sizeOf4
 v4:=Tryz.zeroValue4
 t5:=Tryz.underlying5
 a5:=Tryz.isAgg5
 z5:=Tryz.sizeOf5
 v5:=Tryz.zeroValue5
 t9:=Tryz.underlying9
 a9:=Tryz.isAgg9
 z9:=Tryz.sizeOf9
 v9:=Tryz.zeroValue9
 t31:=Tryz.underlying54
 a31:=Tryz.isAgg54
 z31:=Tryz.sizeOf54
 v31:=Tryz.zeroValue54
 t46:=Tryz.underlying199
 a46:=Tryz.isAgg199
 z46:=Tryz.sizeOf199
 v46:=Tryz.zeroValue199
 t51:=Tryz.underlying226
 a51:=Tryz.isAgg226
 z51:=Tryz.sizeOf226
 v51:=Tryz.zeroValue226
 t53:=Tryz.underlying228
 a53:=Tryz.isAgg228
 z53:=Tryz.sizeOf228
 v53:=Tryz.zeroValue228
 t131:=Tryz.underlying223
 a131:=Tryz.isAgg223
 z131:=Tryz.sizeOf223
 v131:=Tryz.zeroValue223
 t182:=Tryz.underlying217
 a182:=Tryz.isAgg217
 z182:=Tryz.sizeOf217
 v182:=Tryz.zeroValue217
 t183:=Tryz.underlying218
 a183:=Tryz.isAgg218
 z183:=Tryz.sizeOf218
 v183:=Tryz.zeroValue218
 t218:=Tryz.underlying236
 a218:=Tryz.isAgg236
 z218:=Tryz.sizeOf236
 v218:=Tryz.zeroValue236
 t222:=Tryz.underlying240
 a222:=Tryz.isAgg240
 z222:=Tryz.sizeOf240
 v222:=Tryz.zeroValue240
 t228:=Tryz.underlying243
 a228:=Tryz.isAgg243
 z228:=Tryz.sizeOf243
 v228:=Tryz.zeroValue243
 t229:=Tryz.underlying244
 a229:=Tryz.isAgg244
 z229:=Tryz.sizeOf244
 v229:=Tryz.zeroValue244}
open Go.Sort Go.RowKit in
theorem Tryz.slices_Sort_string (blk off cap:Nat) (ss:List (List UInt8)) (w:World) (hH:Holds encStr w blk off ss.toArray) (hblk:blk < w.heap.size) (hsz:ss.length < 4611686018427387904) :
  Calls Tryz.prog 126 #[.slice (some ⟨blk,off,none⟩) ss.length cap] w fun e w' =>
   e=.returned (.tuple #[])∧∃n os,w'=grow (putRow encStr (Sort.ahead w n) blk off (ss.mergeSort fun x y=>decide (x≤y)).toArray) os:=Any.slices_Sort_string Tryz.lays190 blk off cap ss w hH hblk hsz
def Tryz.laysNm216_ren:Go.Shelf.Ren:=⟨fun|16=>125|n=>n,fun|24=>54|9=>9|4=>4|n=>n,fun|n=>n⟩
theorem Tryz.laysNm216 : Go.Proofs.Lays2.n16 Tryz.prog Tryz.laysNm216_ren := {
 mixed:=by kernel_rfl
 f16:=Tryz.func125.trans (congrArg some (by kernel_rfl))
 t4:=Tryz.underlying4
 a4:=Tryz.isAgg4
 z4:=Tryz.sizeOf4
 v4:=Tryz.zeroValue4
 t9:=Tryz.underlying9
 a9:=Tryz.isAgg9
 z9:=Tryz.sizeOf9
 v9:=Tryz.zeroValue9
 t24:=Tryz.underlying54
 a24:=Tryz.isAgg54
 z24:=Tryz.sizeOf54
 v24:=Tryz.zeroValue54
 i9:=by kernel_rfl}
open Go.RowKit Go.Lib in
theorem Tryz.slices_Clone_string (b off n c:Nat) (zs:List ByteArray) (w:World) (hz:n≤zs.length) (hbig:n*16≤140737488355328) (hc:∀j,j < zs.length→w.cell? ⟨b,off+j,none⟩=some (.string (zs.getD j ByteArray.empty))) :
  Calls Tryz.prog 125 #[.slice (some ⟨b,off,none⟩) n c] w fun e w'=>∃v',e=.returned v'∧w'.ownsRow w.heap.size 9 1 v' n ((zs.take n).map (Value.string))∧v'≠.slice none 0 0∧Below w.heap.size w w':=Any.slices_Clone_string Tryz.laysNm216 b off n c zs w hz hbig hc
open Go.RowKit Go.Lib in
theorem Tryz.slices_Clone_string_nil (n c:Nat) (w:World) :
  Calls Tryz.prog 125 #[.slice none n c] w fun e w'=>e=.returned (.slice none 0 0)∧w'=w:=Any.slices_Clone_string_nil Tryz.laysNm216 n c w
open Go.RowKit Go.Lib in
theorem Tryz.slices_Clone_string_zero (a:Addr) (c:Nat) (w:World) :
  Calls Tryz.prog 125 #[.slice (some a) 0 c] w fun e w'=>∃v',e=.returned v'∧w'.ownsRow w.heap.size 9 1 v' 0 []∧v'≠.slice none 0 0∧Below w.heap.size w w':=Any.slices_Clone_string_zero Tryz.laysNm216 a c w
def Tryz.lays194_ren:Go.Shelf.Ren:=⟨fun|194=>127|n=>n,fun|31=>54|9=>9|3=>3|4=>4|0=>0|n=>n,fun|n=>n⟩
theorem Tryz.lays194 : Go.Proofs.Lays.n194 Tryz.prog Tryz.lays194_ren := {
 mixed:=by kernel_rfl
 f194:=Tryz.func127.trans (congrArg some (by kernel_rfl))
 t0:=Tryz.underlying0
 a0:=Tryz.isAgg0
 z0:=Tryz.sizeOf0
 v0:=Tryz.zeroValue0
 t3:=Tryz.underlying3
 a3:=Tryz.isAgg3
 z3:=Tryz.sizeOf3
 v3:=Tryz.zeroValue3
 t4:=Tryz.underlying4
 a4:=Tryz.isAgg4
 z4:=Tryz.sizeOf4
 v4:=Tryz.zeroValue4
 t9:=Tryz.underlying9
 a9:=Tryz.isAgg9
 z9:=Tryz.sizeOf9
 v9:=Tryz.zeroValue9
 t31:=Tryz.underlying54
 a31:=Tryz.isAgg54
 z31:=Tryz.sizeOf54
 v31:=Tryz.zeroValue54}
open Go.RowKit Go.Lib Go.Sort in
theorem Tryz.slices_Compact_string (blk off cap:Nat) (zs:List (List UInt8)) (w:World) (hH:Holds encStr w blk off zs.toArray) (hsz:zs.length≤9223372036854775807) (hcap:zs.length≤cap) :
  Calls Tryz.prog 127 #[.slice (some ⟨blk,off,none⟩) zs.length cap] w fun e w'=>e=.returned (.slice (some ⟨blk,off,none⟩) (Lib.compact zs).length cap)∧∃q,w'=putRow encStr (Sort.ahead w q) blk off (Lib.compact zs++List.replicate (zs.length - (Lib.compact zs).length) []).toArray:=Any.slices_Compact_string Tryz.lays194 blk off cap zs w hH hsz hcap
open Go.RowKit Go.Lib Go.Sort in
theorem Tryz.slices_Compact_string_empty (a:Option Addr) (cap:Nat) (w:World) :
  Calls Tryz.prog 127 #[.slice a 0 cap] w fun e w'=>e=.returned (.slice a 0 cap)∧w'=w:=Any.slices_Compact_string_empty Tryz.lays194 a cap w
open Go.RowKit Go.Sort in
theorem Tryz.slices_Sort_string_none (p:Option Addr) (cap:Nat) (w:World) :
  Calls Tryz.prog 126 #[.slice p 0 cap] w fun e w'=>e=.returned (.tuple #[])∧w'=w:=Any.slices_Sort_string_none Tryz.lays190 p cap w
end Go.Proofs

namespace Go.Proofs.YthdoimgbbabcaaaGreat
open Go.RowKit Go.Shelf Plain Go.Maps

def SetN (w:World) (b c:Nat) (f:Int×Int→Bool):Prop:=∃D:DataW Unit,w.ownsMap Tryz.prog 151 unitElem b c D∧∀x y kl,i64 x→i64 y→keyOf Tryz.prog 151 (.agg #[.int .i64 x,.int .i64 y])=some kl→Maps.has D kl=f (x,y)
section
variable {w w' : World} {b c : Nat} {f : Int × Int → Bool}
theorem SetN.lt (h:SetN w b c f):b < w.heap.size:=by obtain ⟨D,h1,h2⟩:=h;exact h1.lt
theorem SetN.kept {row:Option Nat} (h:SetN w b c f) (hg:w.grownBy w' row) (hne:some b≠row):SetN w' b c f:=by obtain ⟨D,h1,h2⟩:=h;exact ⟨D,h1.kept hg hne,h2⟩
theorem SetN.on (h:SetN w b c f) (hb:Below w.heap.size w w'):SetN w' b c f:=h.kept (grown_below hb) (by simp)
theorem SetN.eq {g:Int×Int→Bool} (h:SetN w b c f) (e:f=g):SetN w b c g:=e ▸ h
end
end Go.Proofs.YthdoimgbbabcaaaGreat

namespace Go.Proofs.YthdoimgbbabcaaaGreat
open Go.RowKit Go.Shelf Plain

set_option maxRecDepth 100000 in
theorem u8_info':(Tryz.prog.info? 5).map (fun i=>(i.zero,i.size,i.bytes))=some (some (.int .u8 0),1,1):=by kernel_rfl
set_option maxHeartbeats 800000 in
theorem SClone_any {A:Option Addr} {n c:Nat} {l:List UInt8} (w:World) (h:Bs w w.heap.size A n l) (hn:n≤100000):Calls Tryz.prog 158 #[.slice A n c] w (BRet w 5 n l):=by
 have H:=hide h
 cases A with
 | none =>
  have h0:n=0:=by
   rcases Nat.eq_zero_or_pos n with h0|h0
   ·exact h0
   ·obtain ⟨_,_,e,_⟩:=h.2 h0;cases e
  subst h0
  obtain rfl:l=[]:=List.eq_nil_of_length_eq_zero h.1
  have hnil:=fun W=>Lib.run_eql_slice_nil (P:=Tryz.prog) W 31 5 none 0 c 0 0 Tryz.underlying31
  clear h
  go_enter Tryz.func158,Tryz.ntmps158
  go_wp2
  go_ret
  exact (Own.nil_ w w.heap.size 5).ret (below_self w)
 | some a =>
  have hnil:=fun W=>Lib.run_eql_slice_nil (P:=Tryz.prog) W 31 5 (some a) n c 0 0 Tryz.underlying31
  clear h
  go_enter Tryz.func158,Tryz.ntmps158
  go_wp2_with (at_builtin;refine wpList_append_Bs _ rfl (.tmp 5) (.tmp 6) 31 rfl w.heap.size 5 Tryz.underlying31 u8_info' (some ⟨w.heap.size,0,none⟩) 0 0 [] rfl (Own.lit w 5 (cs:=[]) (l:=[]) rfl rfl (by omega)) w.heap.size (some a) n c l rfl (H.out.below (below_new (below_self w) _)) n (by omega) (by omega) (by simp) ?_;intro A5 c5 w5 ho5 hb5;have HO5:=hide ho5;have HB5:=hide hb5;clear ho5 hb5)
  go_ret
  exact HO5.out.ret ((below_new (below_self w) _).trans HB5.out)
theorem wpList_litW {P:Program} {w w':World} {ops:Array Oper} {rest:List Oper} {o:Oper} {a:Act} {Q:Exit→Act→World→Prop} (hgd:o.guard=none) (t:Nat) (x:Operand) (ho:o.op=.buildSlice t 1 #[(0,x)]) (vx v:Value) (hx:a.eval x=vx) (hr:(Instr.buildSlice t 1 #[(0,vx)]).run P w=.ok v w') (hK:wpList P ops Q rest (a.put o.dst v) w'):wpList P ops Q (o::rest) a w:=by
 refine wpList_plain hgd fun K hK'=>?_
 unfold Oper.wp execOp
 simp only [ho,List.map_toArray,List.map_cons,List.map_nil,hx,Sem.run_bind,Sem.run_pure,Result.andThen_ok,hr]
 exact hK' _ _ hK
end Go.Proofs.YthdoimgbbabcaaaGreat

namespace Go.Proofs.YthdoimgbbabcaaaGreat
open Go.RowKit Go.Shelf Plain

def nodZ:List Value:=nodC nod0 (.slice none 0 0) (.slice none 0 0)
theorem flat_put {k:Nat}:∀ {css:List (List Value)} (_:∀cs∈css,cs.length=k) (j:Nat) (cs:List Value) (_:cs.length=k) (_:j < css.length),splice css.flatten (j*k) cs=(css.set j cs).flatten:=by
 intro css
 induction css with
 | nil=>intro _ j cs _ hj;simp at hj
 | cons c0 r ih =>
  intro hk j cs hc hj
  have h0:c0.length=k:=hk c0 List.mem_cons_self
  cases j with
  | zero =>
   simp only [splice,Nat.zero_mul,List.take_zero,List.nil_append,Nat.zero_add,List.set_cons_zero,List.flatten_cons]
   rw [List.drop_left' (by omega)]
  | succ j =>
   have:=ih (fun c h=>hk c (List.mem_cons_of_mem _ h)) j cs hc (by simpa using hj)
   simp only [List.set_cons_succ,List.flatten_cons,←this]
   unfold splice
   have e1:(j+1)*k=c0.length+j*k:=by rw [Nat.succ_mul,h0];omega
   rw [e1,List.take_append,List.take_of_length_le (by omega),Nat.add_sub_cancel_left,List.append_assoc,show c0.length+j*k+cs.length=c0.length+(j*k+cs.length) from by omega,List.drop_append,List.drop_of_length_le (by omega),Nat.add_sub_cancel_left,List.nil_append]
def NodesAt (B g:Nat) (l:List NodV) (W:World):Prop:=∃css,RowL W g 38 css.flatten∧CellsE nodEn W (fun b=>B≤b∧b < W.heap.size∧b≠g) css l
theorem NodesAt.on {B g:Nat} {l:List NodV} {W W':World} (h:NodesAt B g l W) (hb:Below W.heap.size W W'):NodesAt B g l W':=by
 obtain ⟨css,h1,h2⟩:=h
 exact ⟨css,h1.on hb,h2.mono (fun b hb'=>hb.block b hb'.2.1) (fun b hb'=>⟨hb'.1,Nat.lt_of_lt_of_le hb'.2.1 hb.size,hb'.2.2⟩)⟩
theorem NodesAt.len {B g:Nat} {l:List NodV} {W:World} (h:NodesAt B g l W):∃cs,RowL W g 38 cs∧cs.length=l.length*13:=by
 obtain ⟨css,h1,h2⟩:=h
 exact ⟨_,h1,by rw [flat_len h2.lens,h2.1];rfl⟩
theorem NodesAt.put {B g j:Nat} {l:List NodV} {x:NodV} {W W':World} {cur cs:List Value} (h:NodesAt B g l W) (hj:j < l.length) (hx:NodR W (fun b=>B≤b∧b < W.heap.size∧b≠g) cs x) (hcur:RowL W g 38 cur) (hr:RowL W' g 38 (splice cur (j*13) cs)) (hg:W.grownBy W' (some g)):NodesAt B g (l.set j x) W':=by
 obtain ⟨css,h1,h2⟩:=h
 have hc:cs.length=13:=nodEn.len hx
 have e:cur=css.flatten:=by
  have:=h1.symm.trans hcur
  injection this with this
  injection this with this
  simpa using this.symm
 subst e
 rw [flat_put (k:=13) (fun c hc=>h2.lens c hc) j cs hc (by rw [h2.1];exact hj)] at hr
 have hk:Kept (fun b=>B≤b∧b < W.heap.size∧b≠g) W W':=fun b hb=>hg.block b hb.2.1 (fun e=>hb.2.2 (Option.some.inj e))
 have hD:∀b,(B≤b∧b < W.heap.size∧b≠g)→(B≤b∧b < W'.heap.size∧b≠g):=fun b hb=>⟨hb.1,Nat.lt_of_lt_of_le hb.2.1 hg.size,hb.2.2⟩
 refine ⟨css.set j cs,hr,by rw [List.length_set,List.length_set,h2.1],fun i c y hc1 hy1=>?_⟩
 by_cases hi:j=i
 ·subst hi
  rw [List.getElem?_set_self (by rw [h2.1];exact hj)] at hc1
  rw [List.getElem?_set_self hj] at hy1
  cases hc1
  cases hy1
  exact NodR.mono hx hk hD
 ·rw [List.getElem?_set_ne hi] at hc1 hy1
  exact nodEn.mono (h2.2 i c y hc1 hy1) hk hD
theorem NodesAt.rd {B g n:Nat} {l:List NodV} {W:World} (h:NodesAt B g l W) (hB:B≤g) (hn:l.length=n):RdE nodEn W (fun b=>B≤b∧b < W.heap.size) (some ⟨g,0,none⟩) n l:=by
 subst hn
 obtain ⟨css,h1,h2⟩:=h
 refine ⟨rfl,fun _=>⟨g,0,rfl,⟨hB,h1.lt⟩,fun i x hx=>?_⟩⟩
 have hi:=(List.getElem?_eq_some_iff.1 hx).1
 have hc:css[i]?=some (css[i]'(by rw [h2.1];exact hi)):=List.getElem?_eq_getElem _
 have hR:=h2.2 i _ x hc hx
 refine ⟨_,nodEn.mono hR (fun _ _=>rfl) (fun b hb=>⟨hb.1,hb.2.1⟩),fun j v hv=>?_⟩
 have hj:j < 13:=by have:=(List.getElem?_eq_some_iff.1 hv).1;have h13:=nodEn.len hR;rw [h13] at this;exact this
 rw [Nat.zero_add,h1.cell]
 exact (flat_get h2.lens hc hj).trans hv
set_option maxRecDepth 100000 in
theorem nodw_info:(Tryz.prog.info? 38).map (fun i=>(i.zero,i.size,i.bytes))=some (some (.agg nodZ.toArray),13,144):=by kernel_rfl
end Go.Proofs.YthdoimgbbabcaaaGreat

namespace Go.Proofs.YthdoimgbbabcaaaGreat
open Go.RowKit Go.Shelf Plain

theorem cell_same {W W':World} {b o:Nat} (h:W'.heap[b]?=W.heap[b]?):W'.cell? ⟨b,o,none⟩=W.cell? ⟨b,o,none⟩:=by
 unfold World.cell?
 simp only [h]
set_option maxRecDepth 100000 in
theorem lay_size:∀w,(Go.sizeOf 26).run Tryz.prog w=.ok 1 w:=fun w=>by kernel_rfl
end Go.Proofs.YthdoimgbbabcaaaGreat

