import Derived.Test.YtnhegahpfacdgaaDoorHn1
import Derived.Deep.RegionHeld3
import Derived.KernelRfl

namespace Go.Proofs.YtnhegahpfacdgaaDoor
open Go

def planOk (md : Region.Mode) (ops : Array Oper) : Array Bool → List (Nat × Bool) → Bool
 | listed,[]=>(Region.ready md ops listed).isEmpty
 | listed,(i,p)::r=>(if p then Region.free md ops listed i&&(Region.ready md ops listed).contains i else Region.ready md ops listed==[i])&&planOk md ops (listed.setIfInBounds i true) r
def planOps (ops:Array Oper) (ps:List (Nat×Bool)):List (Oper×Bool):=ps.filterMap fun x=>(ops[x.1]?).map fun o=>(o,x.2)

section
variable {P : Program} {ops : Array Oper} {Q : Exit → Act → World → Prop} {S : World → Prop}
def wpPlan (P : Program) (ops : Array Oper) (Q : Exit → Act → World → Prop) (S : World → Prop) : List (Oper × Bool) → Act → World → Prop
 | [],a,w=>Q .normal a w
 | (o,true)::r,a,w=>∃v,YieldsIf P ops S o v a∧wpPlan P ops Q S r (a.put o.dst v) w
 | (o,false)::r,a,w=>if Region.wanted o (yielded ops a.tmps)=true then Oper.wp P o a w (fun a' w'=>S w'∧wpPlan P ops Q S r a' w') Q else wpPlan P ops Q S r (a.put o.dst undef) w
theorem wpPlan_end {a:Act} {w:World} (h:Q .normal a w):wpPlan P ops Q S [] a w:=h
theorem wpPlan_take {o : Oper} {r : List (Oper × Bool)} {a : Act} {w : World} {v : Value} (hw : Region.wanted o (yielded ops a.tmps) = true) (hv : ∀ w, S w → (execOp a.eval o).run P w = .ok (.value v) w)
  (h:wpPlan P ops Q S r (a.put o.dst v) w):wpPlan P ops Q S ((o,true)::r) a w:=⟨v,.inl ⟨hw,hv⟩,h⟩
theorem wpPlan_skip {o : Oper} {r : List (Oper × Bool)} {a : Act} {w : World} {p : Bool} (hw : Region.wanted o (yielded ops a.tmps) = false)
  (h:wpPlan P ops Q S r (a.put o.dst undef) w):wpPlan P ops Q S ((o,p)::r) a w:=by
 cases p with
 | true=>exact ⟨undef,.inr ⟨hw,rfl⟩,h⟩
 | false=>unfold wpPlan;rw [if_neg (by rw [hw];simp)];exact h
theorem wpPlan_call {o : Oper} {r : List (Oper × Bool)} {a : Act} {w : World} (hw : Region.wanted o (yielded ops a.tmps) = true)
  (h:∀K':Act→World→Prop,Shut (∀a' w',S w'→(S w'→wpPlan P ops Q S r a' w')→K' a' w')→Oper.wp P o a w K' Q):wpPlan P ops Q S ((o,false)::r) a w:=by
 unfold wpPlan
 rw [if_pos hw]
 exact h _ (fun a' w' hS hr=>⟨hS,hr hS⟩)

theorem ready_some {md:Region.Mode} {listed:Array Bool} {i:Nat} (h:i∈Region.ready md ops listed):∃o,ops[i]?=some o:=by
 unfold Region.ready at h
 have:=List.mem_range.1 (List.mem_filter.1 h).1
 exact ⟨ops[i],Array.getElem?_eq_getElem this⟩
theorem wpAnyH_plan {md:Region.Mode} (hs:Region.noSelect ops=true) (hQ:∀c a d v w,Q (.panic c) (Act.put a d v) w→Q (.panic c) a w) :
  ∀(ps:List (Nat×Bool)) (fuel:Nat) (listed:Array Bool) (a:Act) (w:World),planOk md ops listed ps=true→ps.length≤fuel→S w→wpPlan P ops Q S (planOps ops ps) a w→wpAnyH P md ops Q S fuel listed a w:=by
 intro ps
 induction ps with
 | nil =>
  intro fuel listed a w hok _ _ h
  exact wpAnyH_done (List.isEmpty_iff.1 hok) h fuel
 | cons x r ih =>
  obtain ⟨i,p⟩:=x
  intro fuel listed a w hok hl hS h
  obtain ⟨fuel,rfl⟩:∃k,fuel=k+1:=⟨fuel - 1,by simp at hl;omega⟩
  have hl':r.length≤fuel:=by simpa using hl
  unfold planOk at hok
  rw [Bool.and_eq_true] at hok
  obtain ⟨h1,h2⟩:=hok
  cases p with
  | true =>
   simp only [if_true,Bool.and_eq_true] at h1
   obtain ⟨o,ho⟩:=ready_some (md:=md) (listed:=listed) (by simpa using h1.2)
   have e:planOps ops ((i,true)::r)=(o,true)::planOps ops r:=by simp [planOps,ho]
   rw [e] at h
   obtain ⟨v,hy,hr⟩:=h
   exact wpAnyH_take ho hs h1.1 h1.2 (fun c a w=>hQ c a _ _ w) hy hS (ih fuel _ _ w h2 hl' hS hr)
  | false =>
   simp only [Bool.false_eq_true,if_false,beq_iff_eq] at h1
   obtain ⟨o,ho⟩:=ready_some (md:=md) (listed:=listed) (i:=i) (by rw [h1];simp)
   have e:planOps ops ((i,false)::r)=(o,false)::planOps ops r:=by simp [planOps,ho]
   rw [e] at h
   refine wpAnyH_all h1 (by simp) (fun j hj=>?_)
   obtain rfl:j=i:=by simpa using hj
   unfold wpOp
   simp only [ho]
   unfold wpPlan at h
   split
   ·rename_i hw
    rw [if_pos hw] at h
    exact .inl (Oper.wp_mono (fun a' w' hk=>⟨hk.1,ih fuel _ _ _ h2 hl' hk.1 hk.2⟩) h)
   ·rename_i hw
    rw [if_neg hw] at h
    exact ⟨hS,ih fuel _ _ w h2 hl' hS h⟩
theorem panic_put (hQ:∀c a k v w,Q (.panic c) (Act.put a (some k) v) w→Q (.panic c) a w):∀c a d v w,Q (.panic c) (Act.put a d v) w→Q (.panic c) a w:=by
 intro c a d v w h
 cases d with
 | none=>exact h
 | some k=>exact hQ c a k v w h
theorem wp_region_plan {id : Nat} {a : Act} {w : World} (S : World → Prop) (ps : List (Nat × Bool)) {l : List (Oper × Bool)} (hm : P.follows .mixedOrders = true) (hok : planOk .any ops (Array.replicate ops.size false) ps = true) (hn : Region.noSelect ops = true) (hlen : decide (ps.length ≤ ops.size) = true)
  (hl:planOps ops ps=l) (hQ:∀c a k v w,Q (.panic c) (Act.put a (some k) v) w→Q (.panic c) a w) (hS:S w.drew) (h:S w.drew→wpPlan P ops Q S l a w.drew):(Code.region id ops true).wp P Q a w:=by
 subst hl
 exact wp_region_held hm (wpAnyH_plan hn (panic_put hQ) ps _ _ _ _ hok (of_decide_eq_true hlen) hS (h hS))
end
end Go.Proofs.YtnhegahpfacdgaaDoor

