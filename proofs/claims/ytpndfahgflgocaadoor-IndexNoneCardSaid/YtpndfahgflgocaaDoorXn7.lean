import Derived.Test.YtpndfahgflgocaaDoorXn6
import Derived.Maps.OwnIn
import Derived.Maps.RangeWalk
import Derived.Carry
import Derived.Test.YtpndfahgflgocaaDoorXn1
import Derived.Deep.RegionHeld3
import Derived.KernelRfl

namespace Go.Proofs.YtpndfahgflgocaaDoor
open Go.RowKit Plain

theorem nodAt_get {ns:List NodV} {j:Nat} {n:NodV} (h:ns[j]?=some n):nodAt ns ((j:Int)+1)=n:=by
 have hj:=(List.getElem?_eq_some_iff.1 h).1
 unfold nodAt
 rw [if_pos (by omega),show ((j:Int)+1 - 1).toNat=j from by omega,h]
 rfl
theorem nodAt_out {ns:List NodV} {i:Int} (h:¬(1≤i∧i≤(ns.length:Int))):nodAt ns i=nod0:=by unfold nodAt;rw [if_neg h]
theorem nodAt_in {ns:List NodV} {i:Int} (h:1≤i∧i≤(ns.length:Int)):∃(j:Nat) (n:NodV),i=(j:Int)+1∧ns[j]?=some n∧nodAt ns i=n:=by
 obtain ⟨j,hj⟩:=Int.eq_ofNat_of_zero_le (show 0≤i - 1 by omega)
 have hl:j < ns.length:=by omega
 refine ⟨j,ns[j],by omega,List.getElem?_eq_getElem hl,?_⟩
 rw [show i=(j:Int)+1 from by omega]
 exact nodAt_get (List.getElem?_eq_getElem hl)
def ComesW (ns:List NodV) (s:StW):Prop:=∀q∈s.2,∃e,(nodAt ns q.1).ents[q.2]?=some e∧∃y∈s.1,y.ino=e.ino
theorem ComesW.pre {ns:List NodV} {l r:List WayV} {t:List (Int×Nat)} (h:ComesW ns (l,t)) (hp:l <+: r):ComesW ns (r,t):=fun q hq=>by
 obtain ⟨e,h1,y,h2,h3⟩:=h q hq
 exact ⟨e,h1,y,hp.subset h2,h3⟩
end Go.Proofs.YtpndfahgflgocaaDoor

namespace Go.Proofs.YtpndfahgflgocaaDoor
open Go.RowKit Go.Shelf Plain

theorem inN_at {ns:List NodV} {i:Int} (h:inN ns i=true):∃(j:Nat) (n:NodV),i=(j:Int)+1∧ns[j]?=some n∧nodAt ns i=n:=by
 unfold inN at h
 rw [Bool.and_eq_true,decide_eq_true_eq,decide_eq_true_eq] at h
 exact nodAt_in h
set_option maxRecDepth 100000 in
set_option maxHeartbeats 1600000 in
theorem Of_any {A:Option Addr} {B:Nat} {n c:Nat} {ns:List NodV} {i:Int} (w:World) (h:RdE nodEn w (Under B) A n ns) (hB:B≤w.heap.size) (hm:ns.length≤100000):Calls Tryd.prog 37 #[.agg #[.slice A n c],.int .i64 i] w (NodRet w B (nodAt ns i)):=by
 have hl:=h.1
 obtain ⟨rz0,rz,hbz,-⟩:=rows2 w [.slice A n c] (nodC nod0 (.slice none 0 0) (.slice none 0 0)) 26 42
 have HZ:=hide rz
 have HB:=hide hbz
 have qb:((w.alloc (.cells [Value.slice A n c].toArray 26)).alloc (.cells (nodC nod0 (.slice none 0 0) (.slice none 0 0)).toArray 42)).cell? ⟨w.heap.size,0,none⟩=some (.slice A n c):=rz0.cell 0
 have hN:=h
 by_cases h1:i < 1
 ·have e:nodAt ns i=nod0:=nodAt_out (by omega)
  have d1:decide (i < 1)=true:=by simpa using h1
  rw [e]
  clear h hN rz rz0 hbz e
  go_enter Tryd.func37,Tryd.ntmps37
  go_wp2_with (refine wpList_storeW rfl 42 (.tmp 4) (.tmp 14) rfl 13 nod_size (w.heap.size+1) 42 rfl (nodC nod0 (.slice none 0 0) (.slice none 0 0)) (nodC nod0 (.slice none 0 0) (.slice none 0 0)) rfl HZ.out rfl rfl (nodC_one nod0 none none 0 0 0 0) ?_;intro w9 hr9 hg9 hs9;have HR9:=hide hr9;have HB9:=hide (HB.out.grown hg9 HB.out.size (pu4 (by omega)));clear hr9 hg9 hs9)
  exact bodyPost_ret (res_cell Tryd.results37 rfl nod_agg nod_size HR9.out rfl) rfl (NodRet.of (Nat.le_refl _) (RdE.none_ _ _ _ _) (Nat.le_refl _) (RdE.none_ _ _ _ _) HB9.out hB)
 ·have d1:decide (i < 1)=false:=by simpa using h1
  by_cases h2:(n:Int) < i
  ·have e:nodAt ns i=nod0:=nodAt_out (by omega)
   have d2:decide ((n:Int) < i)=true:=by simpa using h2
   rw [e]
   clear h hN rz rz0 hbz e
   go_enter Tryd.func37,Tryd.ntmps37
   go_wp2_with (refine wpList_storeW rfl 42 (.tmp 4) (.tmp 14) rfl 13 nod_size (w.heap.size+1) 42 rfl (nodC nod0 (.slice none 0 0) (.slice none 0 0)) (nodC nod0 (.slice none 0 0) (.slice none 0 0)) rfl HZ.out rfl rfl (nodC_one nod0 none none 0 0 0 0) ?_;intro w9 hr9 hg9 hs9;have HR9:=hide hr9;have HB9:=hide (HB.out.grown hg9 HB.out.size (pu4 (by omega)));clear hr9 hg9 hs9)
   exact bodyPost_ret (res_cell Tryd.results37 rfl nod_agg nod_size HR9.out rfl) rfl (NodRet.of (Nat.le_refl _) (RdE.none_ _ _ _ _) (Nat.le_refl _) (RdE.none_ _ _ _ _) HB9.out hB)
  ·have d2:decide ((n:Int) < i)=false:=by simpa using h2
   obtain ⟨j,x,rfl,hx,e⟩:=nodAt_in (ns:=ns) (i:=i) (by omega)
   rw [e]
   obtain ⟨b,o,cs,rfl,hbB,hNd,hcell⟩:=hN.get_nod hx
   have hjn:j < n:=by omega
   have hcell1:=fun j' v (hv:cs[j']?=some v)=>(hbz.cell (p:=⟨b,o+j*13+j',none⟩) (Nat.lt_of_lt_of_le hbB hB)).trans (hcell j' v hv)
   obtain ⟨A1,n1,c1,C1,m1,d1',rfl,e2,e3,e4,e5⟩:=hNd
   have HC:=hide hcell1
   have E3:=hide e3
   have E5:=hide e5
   have hw1:IntKind.i64.wrap ((j:Int)+1 - 1)=(j:Int):=by rw [show (j:Int)+1 - 1=j from by omega];exact IntWalk.i64_in _ (by omega)
   have hw2:IntKind.i64.wrap (j:Int)=(j:Int):=IntWalk.i64_in _ (by omega)
   clear h hN rz rz0 hbz e hcell hcell1 e3 e5 hx h1 h2
   go_enter Tryd.func37,Tryd.ntmps37
   go_wp2_with (first|(refine wpList_loadX rfl 42 (.tmp 19) rfl 13 nod_agg nod_size b (o+j*13) rfl (nodC x (.slice A1 n1 c1) (.slice C1 m1 d1')) HC.out rfl ?_)|(refine wpList_storeW rfl 42 (.tmp 4) (.tmp 20) rfl 13 nod_size (w.heap.size+1) 42 rfl (nodC nod0 (.slice none 0 0) (.slice none 0 0)) (nodC x (.slice A1 n1 c1) (.slice C1 m1 d1')) rfl HZ.out rfl rfl (nodC_one x A1 C1 n1 c1 m1 d1') ?_;intro w9 hr9 hg9 hs9;have HR9:=hide hr9;have HB9:=hide (HB.out.grown hg9 HB.out.size (pu4 (by omega)));clear hr9 hg9 hs9))
   exact bodyPost_ret (res_cell Tryd.results37 rfl nod_agg nod_size HR9.out rfl) rfl (NodRet.of e2 E3.out e4 E5.out HB9.out hB)
set_option maxRecDepth 100000 in
set_option maxHeartbeats 1600000 in
theorem node_any {B g:Nat} {ns:List NodV} {i:Int} (w:World) (h:WkN w B g ns) (hB:B≤w.heap.size) (hg:g < w.heap.size) (hm:ns.length≤100000):Calls Tryd.prog 45 #[.pointer (some ⟨g,0,none⟩),.int .i64 i] w (NodRet w B (nodAt ns i)):=by
 have hz:=RowL.new w 42 (nodC nod0 (.slice none 0 0) (.slice none 0 0))
 have hb:=below_new (below_self w) (.cells (nodC nod0 (.slice none 0 0) (.slice none 0 0)).toArray 42)
 obtain ⟨A,n,c,hc,hr0⟩:=h
 have hr:=hr0.under hb hB
 have HR:=hide hr
 have HZ:=hide hz
 have HB:=hide hb
 have hsz:=hb.size
 clear hr hr0 hz hb
 go_enter Tryd.func45,Tryd.ntmps45
 go_wp2_with (first|(go_at_call 37;refine (Of_any _ HR.out (Nat.le_trans hB hsz) hm).mono ?_;rintro e w1 ⟨A1,n1,c1,C1,m1,d1,rfl,e2,e3,e4,e5,hb1⟩;have E3:=hide e3;have E5:=hide e5;have HB1:=hide hb1;clear e3 e5 hb1)|(refine wpList_storeW rfl 42 (.tmp 4) (.tmp 10) rfl 13 nod_size w.heap.size 42 rfl (nodC nod0 (.slice none 0 0) (.slice none 0 0)) (nodC (nodAt ns i) (.slice A1 n1 c1) (.slice C1 m1 d1)) rfl (HZ.out.on HB1.out) rfl rfl (nodC_one _ A1 C1 n1 c1 m1 d1) ?_;intro w9 hr9 hg9 hs9;have HR9:=hide hr9;have HG9:=hide hg9;clear hr9 hg9 hs9))
 have hs1:=HB1.out.size
 have hk:Kept (Under B) w1 w9:=fun b hb=>HG9.out.block b (by unfold Under at hb;omega) (fun e=>by have:=Option.some.inj e;unfold Under at hb;omega)
 exact bodyPost_ret (res_cell Tryd.results45 rfl nod_agg nod_size HR9.out rfl) rfl ⟨A1,n1,c1,C1,m1,d1,rfl,e2,E3.out.mono hk (fun _ h=>h),e4,E5.out.mono hk (fun _ h=>h),(HB.out.trans (HB1.out.mono HB.out.size)).grown HG9.out (by omega) (pu4 (by omega))⟩
set_option maxRecDepth 100000 in
theorem nod_f0 (x:NodV) (d e:Value) (W:World):(Instr.field 42 (.agg (nodC x d e).toArray) 0).run Tryd.prog W=.ok (.int .i64 x.k) W:=by kernel_rfl
set_option maxRecDepth 100000 in
theorem nod_f5 (x:NodV) (D C:Option Addr) (n c m d:Nat) (W:World):(Instr.field 42 (.agg (nodC x (.slice D n c) (.slice C m d)).toArray) 5).run Tryd.prog W=.ok (.slice C m d) W:=by kernel_rfl
set_option maxRecDepth 100000 in
set_option maxHeartbeats 1600000 in
theorem dir_any {B g:Nat} {ns:List NodV} {i:Int} (w:World) (h:WkN w B g ns) (hB:B≤w.heap.size) (hg:g < w.heap.size) (hm:ns.length≤100000):Calls Tryd.prog 42 #[.pointer (some ⟨g,0,none⟩),.int .i64 i] w (BoolB w (isDir ns i)):=by
 have H:=hide h
 obtain ⟨b,hb⟩:∃b,isDir ns i=b:=⟨_,rfl⟩
 have hk:((nodAt ns i).k==1)=b:=by rw [←hb];unfold isDir;rw [Bool.eq_iff_iff];simp
 rw [hb]
 clear h hb
 go_enter Tryd.func42,Tryd.ntmps42
 go_wp2_with (go_at_call 45;refine (node_any _ H.out hB hg hm).mono ?_;rintro e w1 ⟨A1,n1,c1,C1,m1,d1,rfl,-,-,-,-,hb1⟩;have hf:=nod_f0 (nodAt ns i) (.slice A1 n1 c1) (.slice C1 m1 d1))
 go_ret
 exact BoolB.of hb1
end Go.Proofs.YtpndfahgflgocaaDoor

namespace Go.Proofs.YtpndfahgflgocaaDoor
open Go.RowKit Go.Shelf Plain Go.Maps

def i64 (x:Int):Prop := -9223372036854775808≤x∧x≤9223372036854775807
theorem i64_wf {n:Int} (h:i64 n):(Lit.int .i64 n).wf=true:=by
 unfold i64 at h
 simp [Lit.wf,IntKind.min,IntKind.max,IntKind.signed,IntKind.bits]
 omega
theorem intKey:Keyed Tryd.prog 3:=int_keyed Tryd.underlying3
theorem unit_zero:∀w,(zeroValue 118).run Tryd.prog w=.ok (.agg #[]) w:=fun w=>by kernel_rfl
def SetW (w:World) (b c:Nat) (f:Int→Bool):Prop:=∃D:DataW Unit,w.ownsMap Tryd.prog 3 unitElem b c D∧∀n,i64 n→Maps.has D (.int .i64 n)=f n
section
variable {w w' : World} {b c : Nat} {f : Int → Bool}
theorem SetW.made (w:World):SetW (w.alloc (.map #[] 0)) w.heap.size 0 (fun _=>false):=⟨.map [],World.ownsMap_made w _ _ _,fun _ _=>rfl⟩
theorem SetW.lt (h:SetW w b c f):b < w.heap.size:=by obtain ⟨D,h1,h2⟩:=h;exact h1.lt
theorem SetW.kept {row:Option Nat} (h:SetW w b c f) (hg:w.grownBy w' row) (hne:some b≠row):SetW w' b c f:=by obtain ⟨D,h1,h2⟩:=h;exact ⟨D,h1.kept hg hne,h2⟩
theorem SetW.on (h:SetW w b c f) (hb:Below w.heap.size w w'):SetW w' b c f:=h.kept (grown_below hb) (by simp)
theorem SetW.eq {g:Int→Bool} (h:SetW w b c f) (e:f=g):SetW w b c g:=e ▸ h
theorem SetW.at_ (h:SetW w b c f) (e:w'.heap[b]?=w.heap[b]?):SetW w' b c f:=by
 obtain ⟨D,⟨es,clock,h1,h2⟩,h3⟩:=h
 exact ⟨D,⟨es,clock,e.trans h1,h2⟩,h3⟩
theorem SetW.obj (h:SetW w b c f):∃o:Obj,w.heap[b]?=some o∧(∀x,o≠.deferred x)∧o.isCells=false:=by
 obtain ⟨D,⟨es,clock,h1,_⟩,h2⟩:=h
 exact ⟨_,h1,(fun x e=>by cases e),rfl⟩
theorem SetW.look (h:SetW w b c f) {n:Int} (hn:i64 n):(Instr.lookup 91 (.map (some b)) (.int .i64 n) true).run Tryd.prog w=.ok (.tuple #[.agg #[],.bool (f n)]) w:=by
 obtain ⟨D,h1,h2⟩:=h
 obtain ⟨v,ps,hrun,hv⟩:=h1.look_ok (t:=91) (e:=118) intKey Tryd.underlying91 (unit_zero w) unitElem_mk (keyOf_int_mk Tryd.underlying3 (i64_wf hn))
 obtain ⟨rfl,-⟩:=unitElem_inv hv
 rw [hrun,h2 n hn]
theorem SetW.put (h:SetW w b c f) {n:Int} (hn:i64 n) (hc:c < maxLen):∃w',(Instr.mapUpdate 91 (.map (some b)) (.int .i64 n) (.agg #[])).run Tryd.prog w=.ok () w'∧SetW w' b (c+1) (fun x=>f x||x==n)∧w.grownBy w' (some b):=by
 obtain ⟨D,h1,h2⟩:=h
 obtain ⟨w',hrun,h3,h4⟩:=h1.update (t:=91) (e:=118) intKey Tryd.underlying91 hc (keyOf_int_mk Tryd.underlying3 (i64_wf hn)) unitElem_mk
 have hm:Maps.IsMap D:=h1.isMap
 have hk:WideAt.IsKeyLit (.int .i64 n):=intKey.key (keyOf_int_mk Tryd.underlying3 (i64_wf hn))
 refine ⟨w',hrun,⟨_,h3,fun x hx=>?_⟩,h4⟩
 by_cases e:x=n
 ·subst e
  rw [has_put_same hm hk]
  simp
 ·have hne:Lit.int .i64 x≠Lit.int .i64 n:=by simpa using e
  rw [has_put_other hne,h2 x hx]
  simp [e]
end
set_option maxHeartbeats 800000 in
theorem came_any {g b c:Nat} {f:Int→Bool} {i:Int} {r:Bool} (w:World) (hc:w.cell? ⟨g,2,none⟩=some (.map (some b))) (h:SetW w b c f) (hi:i64 i) (hr:f i=r):Calls Tryd.prog 43 #[.pointer (some ⟨g,0,none⟩),.int .i64 i] w (BoolB w r):=by
 subst hr
 have hl:=h.look hi
 obtain ⟨r,hr⟩:∃r,f i=r:=⟨_,rfl⟩
 rw [hr] at hl ⊢
 clear h hi hr
 go_enter Tryd.func43,Tryd.ntmps43
 go_wp2
 go_ret
 exact BoolB.of (below_new (below_self w) _)
end Go.Proofs.YtpndfahgflgocaaDoor

namespace Go.Proofs.YtpndfahgflgocaaDoor
open Go

def planOk (md : Region.Mode) (ops : Array Oper) : Array Bool → List (Nat × Bool) → Bool
 | listed,[]=>(Region.ready md ops listed).isEmpty
 | listed,(i,p)::r=>(if p then Region.free md ops listed i&&(Region.ready md ops listed).contains i else Region.ready md ops listed==[i])&&planOk md ops (listed.setIfInBounds i true) r
def planOps (ops:Array Oper) (ps:List (Nat×Bool)):List (Oper×Bool):=ps.filterMap fun x=>(ops[x.1]?).map fun o=>(o,x.2)

section
variable {P : Program} {ops : Array Oper} {Q : Exit → Act → World → Prop} {S : World → Prop}
def wpPlan (P : Program) (ops : Array Oper) (Q : Exit → Act → World → Prop) (S : World → Prop) : List (Oper × Bool) → Act → World → Prop
 | [],a,w=>Q .normal a w
 | (o,true)::r,a,w=>∃v,YieldsIf P ops S o v a∧wpPlan P ops Q S r (a.put o.dst v) w
 | (o,false)::r,a,w=>if Region.wanted o (yielded ops a.tmps)=true then Oper.wp P o a w (fun a' w'=>S w'∧wpPlan P ops Q S r a' w') Q else wpPlan P ops Q S r (a.put o.dst undef) w
theorem wpPlan_end {a:Act} {w:World} (h:Q .normal a w):wpPlan P ops Q S [] a w:=h
theorem wpPlan_take {o : Oper} {r : List (Oper × Bool)} {a : Act} {w : World} {v : Value} (hw : Region.wanted o (yielded ops a.tmps) = true) (hv : ∀ w, S w → (execOp a.eval o).run P w = .ok (.value v) w)
  (h:wpPlan P ops Q S r (a.put o.dst v) w):wpPlan P ops Q S ((o,true)::r) a w:=⟨v,.inl ⟨hw,hv⟩,h⟩
theorem wpPlan_skip {o : Oper} {r : List (Oper × Bool)} {a : Act} {w : World} {p : Bool} (hw : Region.wanted o (yielded ops a.tmps) = false)
  (h:wpPlan P ops Q S r (a.put o.dst undef) w):wpPlan P ops Q S ((o,p)::r) a w:=by
 cases p with
 | true=>exact ⟨undef,.inr ⟨hw,rfl⟩,h⟩
 | false=>unfold wpPlan;rw [if_neg (by rw [hw];simp)];exact h
theorem wpPlan_call {o : Oper} {r : List (Oper × Bool)} {a : Act} {w : World} (hw : Region.wanted o (yielded ops a.tmps) = true)
  (h:∀K':Act→World→Prop,Shut (∀a' w',S w'→(S w'→wpPlan P ops Q S r a' w')→K' a' w')→Oper.wp P o a w K' Q):wpPlan P ops Q S ((o,false)::r) a w:=by
 unfold wpPlan
 rw [if_pos hw]
 exact h _ (fun a' w' hS hr=>⟨hS,hr hS⟩)

theorem ready_some {md:Region.Mode} {listed:Array Bool} {i:Nat} (h:i∈Region.ready md ops listed):∃o,ops[i]?=some o:=by
 unfold Region.ready at h
 have:=List.mem_range.1 (List.mem_filter.1 h).1
 exact ⟨ops[i],Array.getElem?_eq_getElem this⟩
theorem wpAnyH_plan {md:Region.Mode} (hs:Region.noSelect ops=true) (hQ:∀c a d v w,Q (.panic c) (Act.put a d v) w→Q (.panic c) a w) :
  ∀(ps:List (Nat×Bool)) (fuel:Nat) (listed:Array Bool) (a:Act) (w:World),planOk md ops listed ps=true→ps.length≤fuel→S w→wpPlan P ops Q S (planOps ops ps) a w→wpAnyH P md ops Q S fuel listed a w:=by
 intro ps
 induction ps with
 | nil =>
  intro fuel listed a w hok _ _ h
  exact wpAnyH_done (List.isEmpty_iff.1 hok) h fuel
 | cons x r ih =>
  obtain ⟨i,p⟩:=x
  intro fuel listed a w hok hl hS h
  obtain ⟨fuel,rfl⟩:∃k,fuel=k+1:=⟨fuel - 1,by simp at hl;omega⟩
  have hl':r.length≤fuel:=by simpa using hl
  unfold planOk at hok
  rw [Bool.and_eq_true] at hok
  obtain ⟨h1,h2⟩:=hok
  cases p with
  | true =>
   simp only [if_true,Bool.and_eq_true] at h1
   obtain ⟨o,ho⟩:=ready_some (md:=md) (listed:=listed) (by simpa using h1.2)
   have e:planOps ops ((i,true)::r)=(o,true)::planOps ops r:=by simp [planOps,ho]
   rw [e] at h
   obtain ⟨v,hy,hr⟩:=h
   exact wpAnyH_take ho hs h1.1 h1.2 (fun c a w=>hQ c a _ _ w) hy hS (ih fuel _ _ w h2 hl' hS hr)
  | false =>
   simp only [Bool.false_eq_true,if_false,beq_iff_eq] at h1
   obtain ⟨o,ho⟩:=ready_some (md:=md) (listed:=listed) (i:=i) (by rw [h1];simp)
   have e:planOps ops ((i,false)::r)=(o,false)::planOps ops r:=by simp [planOps,ho]
   rw [e] at h
   refine wpAnyH_all h1 (by simp) (fun j hj=>?_)
   obtain rfl:j=i:=by simpa using hj
   unfold wpOp
   simp only [ho]
   unfold wpPlan at h
   split
   ·rename_i hw
    rw [if_pos hw] at h
    exact .inl (Oper.wp_mono (fun a' w' hk=>⟨hk.1,ih fuel _ _ _ h2 hl' hk.1 hk.2⟩) h)
   ·rename_i hw
    rw [if_neg hw] at h
    exact ⟨hS,ih fuel _ _ w h2 hl' hS h⟩
theorem panic_put (hQ:∀c a k v w,Q (.panic c) (Act.put a (some k) v) w→Q (.panic c) a w):∀c a d v w,Q (.panic c) (Act.put a d v) w→Q (.panic c) a w:=by
 intro c a d v w h
 cases d with
 | none=>exact h
 | some k=>exact hQ c a k v w h
theorem wp_region_plan {id : Nat} {a : Act} {w : World} (S : World → Prop) (ps : List (Nat × Bool)) {l : List (Oper × Bool)} (hm : P.follows .mixedOrders = true) (hok : planOk .any ops (Array.replicate ops.size false) ps = true) (hn : Region.noSelect ops = true) (hlen : decide (ps.length ≤ ops.size) = true)
  (hl:planOps ops ps=l) (hQ:∀c a k v w,Q (.panic c) (Act.put a (some k) v) w→Q (.panic c) a w) (hS:S w.drew) (h:S w.drew→wpPlan P ops Q S l a w.drew):(Code.region id ops true).wp P Q a w:=by
 subst hl
 exact wp_region_held hm (wpAnyH_plan hn (panic_put hQ) ps _ _ _ _ hok (of_decide_eq_true hlen) hS (h hS))
end
end Go.Proofs.YtpndfahgflgocaaDoor

