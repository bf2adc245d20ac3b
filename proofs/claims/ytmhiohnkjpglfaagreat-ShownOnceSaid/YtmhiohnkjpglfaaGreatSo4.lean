import Derived.Test.YtmhiohnkjpglfaaGreatSo3
import Derived.Test.YtmhiohnkjpglfaaGreatSo2
import Derived.RangeFuncNested
import Derived.RangeFuncBound
import Derived.RangeFuncCalls
import Derived.RangeFuncLeaves
import Derived.RangeFuncFrom
import Derived.RangeFuncWrites
import Derived.Shelf.Abstract
import Derived.Shelf.RegionOpen
import Derived.WalkKit
import Derived.OwnWalkIn
import Derived.TacticsInMore
import Derived.LoopNIn
import Derived.LoopIn

namespace Go.Proofs.YtmhiohnkjpglfaaGreat
open Go.RowKit Plain

theorem sum_le {α : Type} {f g : α → Nat} : ∀ {l : List α}, (∀ x ∈ l, f x ≤ g x) → (l.map f).sum ≤ (l.map g).sum
 | [],_=>Nat.le_refl _
 | x::r,h=>by
  simp only [List.map_cons,List.sum_cons]
  exact Nat.add_le_add (h x List.mem_cons_self) (sum_le fun y hy=>h y (List.mem_cons_of_mem _ hy))
theorem sum_eq {α:Type} {f g:α→Nat} {l:List α} (h:∀x∈l,f x=g x):(l.map f).sum=(l.map g).sum:=Nat.le_antisymm (sum_le fun x hx=>Nat.le_of_eq (h x hx)) (sum_le fun x hx=>Nat.le_of_eq (h x hx).symm)
def kidsW (ns:List NodV) (i:Int):List EntV:=(nodAt ns i).ents.filter (fun e=>isDir ns e.ino)
theorem dirs_kids (ns:List NodV) (l:List EntV):(dirsOf ns l).map (fun x=>x.1)=l.filter (fun e=>isDir ns e.ino):=map_filter_zip (fun e=>isDir ns e.ino) l 0
theorem fold_all (d : Int) (p : Nat) : ∀ (xs : List (EntV × Nat)) (s : StW), (xs.foldl (oneW d p) s).2 = [] → (xs.foldl (oneW d p) s).1 = s.1 ++ xs.map (fun x => ⟨x.1.ino, p, x.1.name⟩)
 | [],s,_=>by simp
 | x::r,s,h=>by
  simp only [List.foldl_cons] at h ⊢
  have h1:=fold_all d p r _ h
  rw [h1]
  cases hc:cameW s.1 x.1.ino with
  | true =>
   exfalso
   refine one_more d p [] [] r (oneW d p s x) ?_ h
   unfold oneW
   simp [hc]
  | false =>
   have h2:(oneW d p s x).1=s.1++[⟨x.1.ino,p,x.1.name⟩]:=by unfold oneW;simp [hc]
   rw [h2]
   simp
theorem fold_nil (d:Int) (p:Nat) (xs:List (EntV×Nat)) (s:StW) (h:(xs.foldl (oneW d p) s).2=[]):s.2=[]:=by
 cases hs:s.2 with
 | nil=>rfl
 | cons a r=>exact absurd h (one_more d p [] [] xs s (by rw [hs];simp))
theorem visit_nil {ns:List NodV} {p:Nat} {s:StW} (h:(visitW ns p s).2=[]):s.2=[]:=by
 unfold visitW at h
 split at h
 ·exact h
 ·exact fold_nil _ _ _ _ h
theorem visit_all {ns:List NodV} {p:Nat} {s:StW} {y:WayV} (hy:s.1[p]?=some y) (h:(visitW ns p s).2=[]):(visitW ns p s).1=s.1++(kidsW ns y.ino).map (fun e=>⟨e.ino,p,e.name⟩):=by
 unfold visitW at h ⊢
 rw [hy] at h ⊢
 rw [fold_all _ _ _ _ h]
 congr 1
 unfold kidsW
 rw [←dirs_kids,List.map_map]
 rfl
theorem run_nil {ns : List NodV} : ∀ (n p : Nat) (s : StW), (runW ns n p s).2 = [] → s.2 = []
 | 0,_,_,h=>h
 | n+1,p,s,h=>by
  unfold runW at h
  split at h
  ·exact visit_nil (run_nil n _ _ h)
  ·exact h
def wgt (ns : List NodV) : Nat → Int → Nat
 | 0,_=>0
 | f+1,i=>1+((kidsW ns i).map (fun e=>wgt ns f e.ino)).sum
theorem wgt_mono (ns : List NodV) : ∀ (f : Nat) (i : Int), wgt ns f i ≤ wgt ns (f + 1) i
 | 0,i=>Nat.zero_le _
 | f+1,i=>by
  unfold wgt
  exact Nat.add_le_add_left (sum_le fun e _=>wgt_mono ns f e.ino) 1
theorem wgt_le (ns:List NodV) (f:Nat) (i:Int):wgt ns f i≤1+((kidsW ns i).map (fun e=>wgt ns f e.ino)).sum:=wgt_mono ns f i
theorem run_pot {ns : List NodV} (f : Nat) : ∀ (n p : Nat) (s : StW), p ≤ s.1.length → OkW ns s.1 → ns.length ≤ p + n → (runW ns n p s).2 = [] → p + ((s.1.drop p).map (fun y => wgt ns f y.ino)).sum ≤ (runW ns n p s).1.length
 | 0,p,s,hp,ho,hn,_=>by
  have:=ho.le
  rw [List.drop_eq_nil_of_le (by omega)]
  simpa [runW] using hp
 | n+1,p,s,hp,ho,hn,h=>by
  unfold runW at h ⊢
  by_cases hlt:p < s.1.length
  ·rw [if_pos hlt] at h ⊢
   obtain ⟨y,hy⟩:∃y,s.1[p]?=some y:=⟨_,List.getElem?_eq_getElem hlt⟩
   have hv:=visit_all hy (run_nil n _ _ h)
   have hl:p+1≤(visitW ns p s).1.length:=by rw [hv,List.length_append];omega
   have ih:=run_pot f n (p+1) (visitW ns p s) hl (visit_ok ho) (by omega) h
   refine Nat.le_trans ?_ ih
   rw [hv,List.drop_append_of_le_length (by omega),List.map_append,List.sum_append]
   have hd:s.1.drop p=y::s.1.drop (p+1):=by
    rw [List.drop_eq_getElem_cons hlt]
    congr 1
    exact (List.getElem?_eq_some_iff.1 hy).2
   rw [hd,List.map_cons,List.sum_cons,List.map_map]
   have h2:=wgt_le ns f y.ino
   have h3:((kidsW ns y.ino).map ((fun y:WayV=>wgt ns f y.ino) ∘ fun e=>(⟨e.ino,p,e.name⟩:WayV))).sum=((kidsW ns y.ino).map (fun e=>wgt ns f e.ino)).sum:=rfl
   rw [h3]
   omega
  ·rw [if_neg hlt]
   rw [List.drop_eq_nil_of_le (by omega)]
   simpa using hp
theorem run_pot_at {ns : List NodV} (f : Nat) : ∀ (n p : Nat) (s : StW), p ≤ s.1.length → OkW ns s.1 → ns.length ≤ p + n → (runW ns n p s).2 = [] → ∀ k y, p ≤ k → (runW ns n p s).1[k]? = some y → wgt ns f y.ino + k ≤ (runW ns n p s).1.length
 | 0,p,s,hp,ho,hn,_,k,y,hk,hy=>by
  have:=ho.le
  have h1:=(List.getElem?_eq_some_iff.1 hy).1
  simp only [runW] at h1
  omega
 | n+1,p,s,hp,ho,hn,h,k,y,hk,hy=>by
  by_cases hkp:k=p
  ·subst hkp
   have h1:=run_pot f (n+1) k s hp ho hn h
   by_cases hlt:k < s.1.length
   ·have h2:s.1[k]?=some y:=by
     obtain ⟨t,ht⟩:=run_pre (ns:=ns) (n+1) k s
     rw [←ht,List.getElem?_append_left hlt] at hy
     exact hy
    rw [List.drop_eq_getElem_cons hlt,List.map_cons,List.sum_cons,(List.getElem?_eq_some_iff.1 h2).2] at h1
    omega
   ·unfold runW at hy
    rw [if_neg hlt] at hy
    exact absurd (List.getElem?_eq_some_iff.1 hy).1 hlt
  ·unfold runW at h hy ⊢
   by_cases hlt:p < s.1.length
   ·rw [if_pos hlt] at h hy ⊢
    obtain ⟨z,hz⟩:∃z,s.1[p]?=some z:=⟨_,List.getElem?_eq_getElem hlt⟩
    have hv:=visit_all hz (run_nil n _ _ h)
    exact run_pot_at f n (p+1) (visitW ns p s) (by rw [hv,List.length_append];omega) (visit_ok ho) (by omega) h k y (by omega) hy
   ·rw [if_neg hlt] at hy
    have:=(List.getElem?_eq_some_iff.1 hy).1
    omega
theorem run_kids {ns : List NodV} : ∀ (n p : Nat) (s : StW), p ≤ s.1.length → OkW ns s.1 → ns.length ≤ p + n → (runW ns n p s).2 = [] → ∀ k y e, p ≤ k → (runW ns n p s).1[k]? = some y → e ∈ kidsW ns y.ino → ∃ j, k < j ∧ (runW ns n p s).1[j]? = some ⟨e.ino, k, e.name⟩
 | 0,p,s,hp,ho,hn,_,k,y,e,hk,hy,_=>by
  have:=ho.le
  have h1:=(List.getElem?_eq_some_iff.1 hy).1
  simp only [runW] at h1
  omega
 | n+1,p,s,hp,ho,hn,h,k,y,e,hk,hy,he=>by
  unfold runW at h hy ⊢
  by_cases hlt:p < s.1.length
  ·rw [if_pos hlt] at h hy ⊢
   obtain ⟨z,hz⟩:∃z,s.1[p]?=some z:=⟨_,List.getElem?_eq_getElem hlt⟩
   have hv:=visit_all hz (run_nil n _ _ h)
   by_cases hkp:k=p
   ·subst hkp
    have hpre:=run_pre (ns:=ns) n (k+1) (visitW ns k s)
    have hzy:z=y:=by
     have h1:(visitW ns k s).1[k]?=some z:=by rw [hv,List.getElem?_append_left hlt];exact hz
     have h2:=pre_get hpre h1
     rw [hy] at h2
     exact (Option.some.inj h2).symm
    subst hzy
    obtain ⟨q,hq,hqe⟩:=List.mem_iff_getElem.1 he
    refine ⟨s.1.length+q,by omega,pre_get hpre ?_⟩
    rw [hv,List.getElem?_append_right (by omega),Nat.add_sub_cancel_left,List.getElem?_map,List.getElem?_eq_getElem hq,hqe]
    rfl
   ·exact run_kids n (p+1) (visitW ns p s) (by rw [hv,List.length_append];omega) (visit_ok ho) (by omega) h k y e (by omega) hy he
  ·rw [if_neg hlt] at hy
   have:=(List.getElem?_eq_some_iff.1 hy).1
   omega
def TreeL (ns:List NodV):Prop:=(walkW ns [1]).2=[]
def inW (ns:List NodV) (i:Int):Prop:=∃y∈(walkW ns [1]).1,y.ino=i
theorem walk_one (ns:List NodV):walkW ns [1]=rootW ns ([],[]) 1:=rfl
theorem root_run {ns:List NodV} (h:isDir ns 1=true):walkW ns [1]=runW ns ns.length 0 ([⟨1,-1,[]⟩],[]):=by
 rw [walk_one]
 unfold rootW
 rw [if_pos (by simp [h,cameW])]
 rfl
theorem in_dir {ns:List NodV} {i:Int} (h:inW ns i):isDir ns 1=true:=by
 obtain ⟨y,hy,-⟩:=h
 cases hd:isDir ns 1 with
 | true=>rfl
 | false =>
  rw [walk_one] at hy
  unfold rootW at hy
  rw [hd] at hy
  simp at hy
theorem in_root {ns:List NodV} (h:isDir ns 1=true):inW ns 1:=by
 refine ⟨⟨1,-1,[]⟩,?_,rfl⟩
 rw [root_run h]
 exact (run_pre (ns:=ns) ns.length 0 ([⟨1,-1,[]⟩],[])).subset (by simp)
theorem in_isDir {ns:List NodV} {i:Int} (h:inW ns i):isDir ns i=true:=by
 obtain ⟨y,hy,rfl⟩:=h
 exact (walk_ok ns [1]).1 y hy
def wt (ns:List NodV) (i:Int):Nat:=wgt ns 24 i
theorem wgt_stable {ns : List NodV} (ht : TreeL ns) : ∀ (m k : Nat) (y : WayV), (walkW ns [1]).1[k]? = some y → (walkW ns [1]).1.length ≤ k + m → wgt ns (m + 1) y.ino = wgt ns m y.ino
 | 0,k,y,hy,hk=>by
  have:=(List.getElem?_eq_some_iff.1 hy).1
  omega
 | m+1,k,y,hy,hk=>by
  have hd:=in_dir ⟨y,List.mem_of_getElem? hy,rfl⟩
  unfold wgt
  congr 1
  refine sum_eq fun e he=>?_
  have h1:=ht
  unfold TreeL at h1
  rw [root_run hd] at h1 hy
  obtain ⟨j,hj,hje⟩:=run_kids ns.length 0 ([⟨1,-1,[]⟩],[]) (by simp) ((OkW.nil_ ns).snoc (x:=⟨1,-1,[]⟩) hd rfl) (by omega) h1 k y e (Nat.zero_le _) hy he
  rw [←root_run hd] at hje
  exact wgt_stable ht m j ⟨e.ino,k,e.name⟩ hje (by omega)
theorem tree_wt {ns:List NodV} {i:Int} (ht:TreeL ns) (hl:ns.length≤24) (h:inW ns i):wt ns i=1+((kidsW ns i).map (fun e=>wt ns e.ino)).sum∧wt ns i≤24∧∀e∈kidsW ns i,inW ns e.ino:=by
 have hd:=in_dir h
 obtain ⟨y,hy,rfl⟩:=h
 obtain ⟨k,hk,hky⟩:=List.mem_iff_getElem.1 hy
 have hyk:(walkW ns [1]).1[k]?=some y:=by rw [List.getElem?_eq_getElem hk,hky]
 have hwl:=(walk_ok ns [1]).le
 have h1:=ht
 unfold TreeL at h1
 have ho:=(OkW.nil_ ns).snoc (x:=⟨1,-1,[]⟩) hd rfl
 refine ⟨?_,?_,fun e he=>?_⟩
 ·have:=wgt_stable ht 24 k y hyk (by omega)
  unfold wt
  rw [←this]
  rfl
 ·have h2:=hyk
  rw [root_run hd] at h1 h2
  have:=run_pot_at 24 ns.length 0 ([⟨1,-1,[]⟩],[]) (by simp) ho (by omega) h1 k y (Nat.zero_le _) h2
  rw [←root_run hd] at this
  unfold wt
  omega
 ·have h2:=hyk
  rw [root_run hd] at h1 h2
  obtain ⟨j,-,hj⟩:=run_kids ns.length 0 ([⟨1,-1,[]⟩],[]) (by simp) ho (by omega) h1 k y e (Nat.zero_le _) h2 he
  rw [←root_run hd] at hj
  exact ⟨_,List.mem_of_getElem? hj,rfl⟩
theorem wt_pos {ns:List NodV} (i:Int):1≤wt ns i:=by unfold wt wgt;omega
end Go.Proofs.YtmhiohnkjpglfaaGreat

namespace Go.Proofs.YtmhiohnkjpglfaaGreat
open Go.RowKit

section
variable {P : Program} {T k : Nat}
theorem run_loadAt_row (hag:∀w,(isAgg T).run P w=.ok true w) (hsz:∀w,(sizeOf T).run P w=.ok k w) {w:World} {g t off:Nat} {cur cs:List Value} (h:RowL w g t cur) (hc:(cur.drop off).take k=cs) (hk:cs.length=k) :
  (Instr.loadAt T (.pointer (some ⟨g,off,none⟩))).run P w=.ok (.agg cs.toArray) w:=by
 have hl:=run_loadCells_list (P:=P) w ⟨g,off,none⟩ cs (fun j v hv=>by
  have hj:j < cs.length:=(List.getElem?_eq_some_iff.1 hv).1
  rw [Addr.add_lit,h.cell,←hv,←hc,List.getElem?_take_of_lt (by omega),List.getElem?_drop])
 rw [hk] at hl
 simp [Instr.loadAt,Instr.sureAddr,loadVar,hag,hsz,hl]
theorem run_storeAt_row (hsz:∀w,(sizeOf T).run P w=.ok k w) {w:World} {g t off:Nat} {cur cs:List Value} (h:RowL w g t cur) (hk:cs.length=k) (hfit:off+k≤cur.length) (h1:∀v∈cs,v.oneCell'=true) :
  (Instr.storeAt T (.pointer (some ⟨g,off,none⟩)) (.agg cs.toArray)).run P w=.ok () (w.setRow g (splice cur off cs).toArray):=by
 have hst:=run_storeCells_at P g off t cs 0 cur.toArray w h (by simp;omega) h1
 simp only [Nat.add_zero] at hst
 simp [Instr.storeAt,Instr.sureAddr,storeVar,hsz,Value.cells,hk,hst,splice]
theorem RowL.setRow_ {w:World} {g t:Nat} {cur:List Value} (h:RowL w g t cur) (new:List Value):RowL (w.setRow g new.toArray) g t new:=setRow_heap w g cur.toArray new.toArray t (0,0) h
theorem grownBy_setRow (w:World) (g:Nat) (new:Array Value):w.grownBy (w.setRow g new) (some g):=⟨rfl,rfl,rfl,by simp,fun j _ hj=>setRow_other w g j new (fun e=>hj (by rw [e]))⟩

theorem wpList_loadC {w : World} {ops : Array Oper} {rest : List Oper} {o : Oper} {a : Act} {Q : Exit → Act → World → Prop} (hgd : o.guard = none) (T : Nat) (x : Operand) (ho : o.op = .load T x)
  (k:Nat) (hag:∀w,(isAgg T).run P w=.ok true w) (hsz:∀w,(sizeOf T).run P w=.ok k w) (g off t:Nat) (hx:a.eval x=.pointer (some ⟨g,off,none⟩)) (cur cs:List Value) (h:RowL w g t cur) (hc:(cur.drop off).take k=cs) (hk:cs.length=k)
  (hK:wpList P ops Q rest (a.put o.dst (.agg cs.toArray)) w):wpList P ops Q (o::rest) a w:=by
 refine wpList_plain hgd fun K hK'=>?_
 have hr:=run_loadAt_row (P:=P) hag hsz h hc hk
 unfold Oper.wp execOp
 simp only [ho,Sem.run_bind,Sem.run_pure,Result.andThen_ok,hx,hr]
 exact hK' _ _ hK
theorem run_loadAt_cells (hag:∀w,(isAgg T).run P w=.ok true w) (hsz:∀w,(sizeOf T).run P w=.ok k w) {w:World} {g off:Nat} {cs:List Value} (h:∀j v,cs[j]?=some v→w.cell? ⟨g,off+j,none⟩=some v) (hk:cs.length=k) :
  (Instr.loadAt T (.pointer (some ⟨g,off,none⟩))).run P w=.ok (.agg cs.toArray) w:=by
 have hl:=run_loadCells_list (P:=P) w ⟨g,off,none⟩ cs (fun j v hv=>by rw [Addr.add_lit];exact h j v hv)
 rw [hk] at hl
 simp [Instr.loadAt,Instr.sureAddr,loadVar,hag,hsz,hl]
theorem wpList_loadX {w : World} {ops : Array Oper} {rest : List Oper} {o : Oper} {a : Act} {Q : Exit → Act → World → Prop} (hgd : o.guard = none) (T : Nat) (x : Operand) (ho : o.op = .load T x)
  (k:Nat) (hag:∀w,(isAgg T).run P w=.ok true w) (hsz:∀w,(sizeOf T).run P w=.ok k w) (g off:Nat) (hx:a.eval x=.pointer (some ⟨g,off,none⟩)) (cs:List Value) (h:∀j v,cs[j]?=some v→w.cell? ⟨g,off+j,none⟩=some v) (hk:cs.length=k)
  (hK:wpList P ops Q rest (a.put o.dst (.agg cs.toArray)) w):wpList P ops Q (o::rest) a w:=by
 refine wpList_plain hgd fun K hK'=>?_
 have hr:=run_loadAt_cells (P:=P) hag hsz h hk
 unfold Oper.wp execOp
 simp only [ho,Sem.run_bind,Sem.run_pure,Result.andThen_ok,hx,hr]
 exact hK' _ _ hK
theorem wp_storeC {w : World} {o : Oper} {a : Act} {K : Act → World → Prop} {Q : Exit → Act → World → Prop} (T : Nat) (x y : Operand) (ho : o.op = .store T x y)
  (k:Nat) (hsz:∀w,(sizeOf T).run P w=.ok k w) (g off t:Nat) (hx:a.eval x=.pointer (some ⟨g,off,none⟩)) (cur cs:List Value) (hy:a.eval y=.agg cs.toArray) (h:RowL w g t cur) (hk:cs.length=k) (hfit:off+k≤cur.length) (h1:∀v∈cs,v.oneCell'=true)
  (hK:∀w',RowL w' g t (splice cur off cs)→w.grownBy w' (some g)→w'.heap.size=w.heap.size→K (a.put o.dst undef) w'):o.wp P a w K Q:=by
 have hr:=run_storeAt_row (P:=P) hsz h hk hfit h1
 unfold Oper.wp execOp
 simp only [ho,Sem.run_bind,Sem.run_pure,Result.andThen_ok,hx,hy,hr]
 exact hK _ (h.setRow_ _) (grownBy_setRow _ _ _) (by simp)
theorem wpList_storeC {w : World} {ops : Array Oper} {rest : List Oper} {o : Oper} {a : Act} {Q : Exit → Act → World → Prop} (hgd : o.guard = none) (T : Nat) (x y : Operand) (ho : o.op = .store T x y)
  (k:Nat) (hsz:∀w,(sizeOf T).run P w=.ok k w) (g off t:Nat) (hx:a.eval x=.pointer (some ⟨g,off,none⟩)) (cur cs:List Value) (hy:a.eval y=.agg cs.toArray) (h:RowL w g t cur) (hk:cs.length=k) (hfit:off+k≤cur.length) (h1:∀v∈cs,v.oneCell'=true)
  (hK:∀w',RowL w' g t (splice cur off cs)→w.grownBy w' (some g)→w'.heap.size=w.heap.size→wpList P ops Q rest (a.put o.dst undef) w'):wpList P ops Q (o::rest) a w:=by
 refine wpList_plain hgd fun K hK'=>?_
 exact wp_storeC T x y ho k hsz g off t hx cur cs hy h hk hfit h1 fun w' h1 h2 h3=>hK' _ _ (hK w' h1 h2 h3)
end
end Go.Proofs.YtmhiohnkjpglfaaGreat

namespace Go.Proofs.YtmhiohnkjpglfaaGreat
open Go.RowKit Plain

section
variable {w w' : World} {g t : Nat} {cs : List Value}
theorem RowL.on (h:RowL w g t cs) (hb:Below w.heap.size w w'):RowL w' g t cs:=(hb.block g h.lt).trans h
theorem RowL.drew (h:RowL w g t cs):RowL w.drew g t cs:=h
theorem grown_cell (w:World) (g i:Nat) (u:Value):w.grownBy (w.setCell ⟨g,i,none⟩ u) (some g):=⟨rfl,rfl,rfl,by simp,fun k _ hk=>Below.heap_setCell _ _ _ _ (fun e=>hk (by rw [e]))⟩
theorem RowL.src {off m:Nat} {l:List Value} (h:RowL w g t cs) (hc:(cs.drop off).take m=l) (hm:l.length=m):∀j v,l[j]?=some v→w.cell? ((⟨g,off,none⟩:Addr).add j)=some v:=by
 intro j v hv
 have hj:j < l.length:=(List.getElem?_eq_some_iff.1 hv).1
 rw [Addr.add_lit,h.cell,←hv,←hc,List.getElem?_take_of_lt (by omega),List.getElem?_drop]
theorem below_drew (h:Below w.heap.size w w'):Below w.heap.size w w'.drew:=⟨h.os,h.tape,h.output,h.size,h.block⟩
end
section
variable {P : Program} {T k : Nat}
theorem run_loadRow {w:World} {g t:Nat} {cs:List Value} (h:RowL w g t cs) (hk:cs.length=k):(loadCellsFrom ⟨g,0,none⟩ 0 k #[]).run P w=.ok cs.toArray w:=by
 have hl:=run_loadCells_list (P:=P) w ⟨g,0,none⟩ cs (fun j v hv=>by rw [Addr.add_lit,h.cell,Nat.zero_add,hv])
 rw [hk] at hl
 exact hl
theorem wpList_loadW {w : World} {ops : Array Oper} {rest : List Oper} {o : Oper} {a : Act} {Q : Exit → Act → World → Prop} (hgd : o.guard = none) (T : Nat) (x : Operand) (ho : o.op = .load T x)
  (k:Nat) (hag:∀w,(isAgg T).run P w=.ok true w) (hsz:∀w,(sizeOf T).run P w=.ok k w) (g t:Nat) (hx:a.eval x=.pointer (some ⟨g,0,none⟩)) (cs:List Value) (h:RowL w g t cs) (hk:cs.length=k)
  (hK:wpList P ops Q rest (a.put o.dst (.agg cs.toArray)) w):wpList P ops Q (o::rest) a w :=
 wpList_loadC hgd T x ho k hag hsz g 0 t hx cs cs h (by rw [List.drop_zero,List.take_of_length_le (by omega)]) hk hK
theorem wpList_storeW {w : World} {ops : Array Oper} {rest : List Oper} {o : Oper} {a : Act} {Q : Exit → Act → World → Prop} (hgd : o.guard = none) (T : Nat) (x y : Operand) (ho : o.op = .store T x y)
  (k:Nat) (hsz:∀w,(sizeOf T).run P w=.ok k w) (g t:Nat) (hx:a.eval x=.pointer (some ⟨g,0,none⟩)) (cur cs:List Value) (hy:a.eval y=.agg cs.toArray) (h:RowL w g t cur) (hk:cs.length=k) (hcur:cur.length=k) (h1:∀v∈cs,v.oneCell'=true)
  (hK:∀w',RowL w' g t cs→w.grownBy w' (some g)→w'.heap.size=w.heap.size→wpList P ops Q rest (a.put o.dst undef) w'):wpList P ops Q (o::rest) a w :=
 wpList_storeC hgd T x y ho k hsz g 0 t hx cur cs hy h hk (by omega) h1 fun w' h1 h2 h3=>hK w' (by
  have e:splice cur 0 cs=cs:=by unfold splice;rw [List.take_zero,List.nil_append,List.drop_of_length_le (by omega),List.append_nil]
  rw [e] at h1;exact h1) h2 h3
theorem res_cell {fn : Func} {tmps : Array Value} {w : World} {s g t : Nat} {cs : List Value} (hr : fn.results = #[.cell s T]) (ht : tmps.getD s undef = .pointer (some ⟨g, 0, none⟩)) (hag : ∀ w, (isAgg T).run P w = .ok true w) (hsz : ∀ w, (sizeOf T).run P w = .ok k w)
  (h:RowL w g t cs) (hk:cs.length=k):(results fn tmps).run P w=.ok (.agg cs.toArray) w:=by
 have hl:=run_loadRow (P:=P) h hk
 have ht':tmps[s]?.getD undef=.pointer (some ⟨g,0,none⟩):=by simpa using ht
 simp [results,hr,ht',hag,hsz,hl,go_sem]
end
theorem rows1 (w:World) (c1:List Value) (t1:Nat):RowL (w.alloc (.cells c1.toArray t1)) w.heap.size t1 c1∧Below w.heap.size w (w.alloc (.cells c1.toArray t1))∧(w.alloc (.cells c1.toArray t1)).heap.size=w.heap.size+1 :=
 ⟨RowL.new w t1 c1,below_new (below_self w) _,by simp⟩
theorem rows2 (w:World) (c1 c2:List Value) (t1 t2:Nat):RowL ((w.alloc (.cells c1.toArray t1)).alloc (.cells c2.toArray t2)) w.heap.size t1 c1∧RowL ((w.alloc (.cells c1.toArray t1)).alloc (.cells c2.toArray t2)) (w.heap.size+1) t2 c2 ∧
  Below w.heap.size w ((w.alloc (.cells c1.toArray t1)).alloc (.cells c2.toArray t2))∧((w.alloc (.cells c1.toArray t1)).alloc (.cells c2.toArray t2)).heap.size=w.heap.size+2:=by
 obtain ⟨h1,h2,h3⟩:=rows1 w c1 t1
 obtain ⟨k1,k2,k3⟩:=rows1 (w.alloc (.cells c1.toArray t1)) c2 t2
 rw [h3] at k1
 exact ⟨h1.on k2,k1,below_step h2 k2,by rw [k3,h3]⟩
theorem rows3 (w:World) (c1 c2 c3:List Value) (t1 t2 t3:Nat):RowL (((w.alloc (.cells c1.toArray t1)).alloc (.cells c2.toArray t2)).alloc (.cells c3.toArray t3)) w.heap.size t1 c1∧RowL (((w.alloc (.cells c1.toArray t1)).alloc (.cells c2.toArray t2)).alloc (.cells c3.toArray t3)) (w.heap.size+1) t2 c2 ∧
  RowL (((w.alloc (.cells c1.toArray t1)).alloc (.cells c2.toArray t2)).alloc (.cells c3.toArray t3)) (w.heap.size+1+1) t3 c3 ∧
  Below w.heap.size w (((w.alloc (.cells c1.toArray t1)).alloc (.cells c2.toArray t2)).alloc (.cells c3.toArray t3))∧(((w.alloc (.cells c1.toArray t1)).alloc (.cells c2.toArray t2)).alloc (.cells c3.toArray t3)).heap.size=w.heap.size+3:=by
 obtain ⟨h1,h2,h3,h4⟩:=rows2 w c1 c2 t1 t2
 obtain ⟨k1,k2,k3⟩:=rows1 ((w.alloc (.cells c1.toArray t1)).alloc (.cells c2.toArray t2)) c3 t3
 rw [h4] at k1
 exact ⟨h1.on k2,h2.on k2,k1,below_step h3 k2,by rw [k3,h4]⟩
end Go.Proofs.YtmhiohnkjpglfaaGreat

namespace Go.Proofs.YtmhiohnkjpglfaaGreat
open Go.RowKit Go.Shelf Plain
attribute [local go_sem] Oper.semAt_some

theorem grown_below {W W':World} (h:Below W.heap.size W W'):W.grownBy W' none:=⟨h.os,h.tape,h.output,h.size,fun k hk _=>h.block k hk⟩
theorem kBelow {A B:World} (h:Below A.heap.size A B):KeepsOthers A B:=⟨h.size,fun i _ hi _=>(h.block i (Array.getElem?_eq_some_iff.1 hi).1).trans hi⟩
theorem RowL.turned {W W':World} {g t:Nat} {cs:List Value} {row:Option Nat} (h:RowL W g t cs) (hg:W.grownBy W' row) (hr:∀r,row=some r→∃o:Obj,W.heap[r]?=some o∧o.isCells=false):RowL W' g t cs:=by
 refine h.grown hg fun e=>?_
 obtain ⟨o,ho,hc⟩:=hr g e.symm
 rw [show W.heap[g]?=_ from h] at ho
 cases Option.some.inj ho
 cases hc

section
variable {F : Fence} {n : Nat} {P : Program} {w : World} {o : Oper} {a : Act} {K : Act → World → Prop} {Q : Exit → Act → World → Prop}
theorem wpIn_storeW (T : Nat) (x y : Operand) (ho : o.op = .store T x y) (k : Nat) (hsz : ∀ w, (Go.sizeOf T).run P w = .ok k w) (g t : Nat) (hx : a.eval x = .pointer (some ⟨g, 0, none⟩)) (cur cs : List Value) (hy : a.eval y = .agg cs.toArray) (h : RowL w g t cur) (hk : cs.length = k) (hcur : cur.length = k) (h1 : ∀ v ∈ cs, v.oneCell' = true)
  (hK:∀w',RowL w' g t cs→w.grownBy w' (some g)→w'.heap.size=w.heap.size→K (a.put o.dst undef) w'):o.wpIn F n P a w K Q:=by
 have hr:=run_storeAt_row (P:=P) hsz (off:=0) h hk (by omega) h1
 have e:splice cur 0 cs=cs:=by unfold splice;rw [List.take_zero,List.nil_append,List.drop_of_length_le (by omega),List.append_nil]
 rw [e] at hr
 unfold Oper.wpIn
 refine ⟨by simp [Oper.about,ho],?_⟩
 rw [Oper.semAt_plain F _ _ (by rw [ho];intro c hc';cases hc')]
 simp only [execOp,ho,Sem.run_bind,Sem.run_pure,Result.andThen_ok,hx,hy,hr]
 exact hK _ (h.setRow_ _) (grownBy_setRow _ _ _) (by simp)
theorem wpIn_loadX (T : Nat) (x : Operand) (ho : o.op = .load T x) (k : Nat) (hag : ∀ w, (isAgg T).run P w = .ok true w) (hsz : ∀ w, (Go.sizeOf T).run P w = .ok k w) (g off : Nat) (hx : a.eval x = .pointer (some ⟨g, off, none⟩)) (cs : List Value) (h : ∀ j v, cs[j]? = some v → w.cell? ⟨g, off + j, none⟩ = some v) (hk : cs.length = k)
  (hK:K (a.put o.dst (.agg cs.toArray)) w):o.wpIn F n P a w K Q:=by
 have hr:=run_loadAt_cells (P:=P) hag hsz h hk
 unfold Oper.wpIn
 refine ⟨by simp [Oper.about,ho],?_⟩
 rw [Oper.semAt_plain F _ _ (by rw [ho];intro c hc';cases hc')]
 simp only [execOp,ho,Sem.run_bind,Sem.run_pure,Result.andThen_ok,hx,hr]
 exact hK
end
theorem ownsRow_below {w w':World} {base e s n:Nat} {v:Value} {xs:List Value} (h:w.ownsRow base e s v n xs) (hb:Below w.heap.size w w'):w'.ownsRow base e s v n xs:=by
 refine ⟨h.1,?_⟩
 rcases h.2 with h0|⟨g,cap,cur,h1,h2,h3,h4⟩
 ·exact .inl h0
 ·refine .inr ⟨g,cap,cur,h1,h2,?_,h4⟩
  rw [hb.block g ?_]
  ·exact h3
  ·rcases Nat.lt_or_ge g w.heap.size with hlt|hge
   ·exact hlt
   ·rw [Array.getElem?_eq_none hge] at h3;cases h3
theorem own_block {W:World} {base e s n:Nat} {v:Value} {xs:List Value} (h:W.ownsRow base e s v n xs):∀g,v.ownBlock=some g→base≤g∧g < W.heap.size∧∃o:Obj,W.heap[g]?=some o∧o.isCells=true:=by
 intro g hg
 rcases h.2 with ⟨rfl,_⟩|⟨g',cap,cur,rfl,hb,hc,_⟩
 ·cases hg
 ·obtain rfl:g'=g:=Option.some.inj hg
  refine ⟨hb,?_,_,hc,rfl⟩
  rcases Nat.lt_or_ge g' W.heap.size with hlt|hge
  ·exact hlt
  ·rw [Array.getElem?_eq_none hge] at hc;cases hc
theorem owns_apart {W:World} {b1 b2 e1 e2 s1 s2 n1 n2:Nat} {v1 v2:Value} {x1 x2:List Value} (h1:W.ownsRow b1 e1 s1 v1 n1 x1) (h2:W.ownsRow b2 e2 s2 v2 n2 x2) (he:e1≠e2):v2.ownBlock=none∨v2.ownBlock≠v1.ownBlock:=by
 rcases h2.2 with ⟨rfl,_⟩|⟨g2,_,_,rfl,_,hc2,_⟩
 ·exact .inl rfl
 ·rcases h1.2 with ⟨rfl,_⟩|⟨g1,_,_,rfl,_,hc1,_⟩
  ·exact .inr (fun e=>by cases e)
  ·refine .inr fun e=>?_
   have e':g2=g1:=Option.some.inj e
   subst e'
   rw [hc1] at hc2
   have:=Option.some.inj hc2
   injection this with _ h _
   exact he h
theorem owns_slice {W:World} {base e s n:Nat} {v:Value} {xs:List Value} (h:W.ownsRow base e s v n xs):∃A c,v=.slice A n c:=by
 rcases h.2 with ⟨rfl,rfl⟩|⟨g,cap,cur,rfl,_⟩
 ·exact ⟨none,0,rfl⟩
 ·exact ⟨_,_,rfl⟩
theorem row_apart {W:World} {base e s n g t:Nat} {v:Value} {xs cs:List Value} (ho:W.ownsRow base e s v n xs) (hr:RowL W g t cs) (h:t≠e):some g≠v.ownBlock:=fun eq=>by
 rcases ho.2 with ⟨rfl,_⟩|⟨g',cap,cur,rfl,_,hc,_⟩
 ·cases eq
 ·have:g=g':=Option.some.inj eq
  subst this
  rw [show W.heap[g]?=_ from hr] at hc
  have:=Option.some.inj hc
  injection this with _ h' _
  exact h h'
def markD (D:Nat):Deferred:={target:=.collected D,args:=#[]}
def Marks (base:Nat) (Ds:List Nat) (W:World):Prop:=Ds.Pairwise (fun a b=>b < a)∧∀D,D∈Ds→base≤D∧W.heap[D]?=some (.deferred (some []))
theorem Marks.none_ (base:Nat) (W:World):Marks base [] W:=⟨List.Pairwise.nil,fun _ h=>by cases h⟩
theorem Marks.lt {base:Nat} {Ds:List Nat} {W:World} (h:Marks base Ds W):∀D,D∈Ds→D < W.heap.size:=fun D hD=>(Array.getElem?_eq_some_iff.1 (h.2 D hD).2).1
theorem Marks.more {base D:Nat} {Ds:List Nat} {W:World} (h:Marks base Ds W) (hD:∀D',D'∈Ds→D' < D) (hb:base≤D) (ho:W.heap[D]?=some (.deferred (some []))):Marks base (D::Ds) W :=
 ⟨List.Pairwise.cons (fun b hb=>hD b hb) h.1,fun D' h'=>by
  rcases List.mem_cons.1 h' with rfl|h'
  ·exact ⟨hb,ho⟩
  ·exact h.2 D' h'⟩
theorem Marks.on {base:Nat} {Ds:List Nat} {W W':World} (h:Marks base Ds W) (hb:Below W.heap.size W W'):Marks base Ds W':=⟨h.1,fun D hD=>⟨(h.2 D hD).1,(hb.block D (h.lt D hD)).trans (h.2 D hD).2⟩⟩
theorem Marks.under {base B:Nat} {Ds:List Nat} {W W':World} (h:Marks base Ds W) (hB:∀D,D∈Ds→D < B) (hb:Below B W W'):Marks base Ds W':=⟨h.1,fun D hD=>⟨(h.2 D hD).1,(hb.block D (hB D hD)).trans (h.2 D hD).2⟩⟩
theorem Marks.grown {base:Nat} {Ds:List Nat} {W W':World} {row:Option Nat} (h:Marks base Ds W) (hg:W.grownBy W' row) (hr:∀r,row=some r→r∉Ds):Marks base Ds W':=⟨h.1,fun D hD=>⟨(h.2 D hD).1,(hg.block D (h.lt D hD) (fun e=>hr D e.symm hD)).trans (h.2 D hD).2⟩⟩
theorem Marks.notin {base g:Nat} {Ds:List Nat} {W:World} {o:Obj} (h:Marks base Ds W) (ho:W.heap[g]?=some o) (hn:∀x,o≠.deferred x):g∉Ds:=fun hm=>by
 have:=(h.2 g hm).2
 rw [ho] at this
 exact hn _ (Option.some.inj this)
theorem Marks.row {base g t:Nat} {cs:List Value} {Ds:List Nat} {W:World} (h:Marks base Ds W) (hr:RowL W g t cs):g∉Ds:=h.notin (o:=.cells cs.toArray t (0,0)) hr (fun x e=>by cases e)
def Unmarked (Ds:List Nat) (W W':World):Prop:=W'.os=W.os∧W'.tape=W.tape∧W'.output=W.output∧W'.heap.size=W.heap.size∧∀j,j∉Ds→W'.heap[j]?=W.heap[j]?
theorem Unmarked.row {Ds:List Nat} {W W':World} {g t:Nat} {cs:List Value} (h:Unmarked Ds W W') (hr:RowL W g t cs) (hg:g∉Ds):RowL W' g t cs:=(h.2.2.2.2 g hg).trans hr
theorem Unmarked.under {base B:Nat} {Ds:List Nat} {W W' W0:World} (h:Unmarked Ds W W') (hm:Marks base Ds W) (hB:B≤base) (hb:Below B W0 W):Below B W0 W' :=
 ⟨h.1.trans hb.os,h.2.1.trans hb.tape,h.2.2.1.trans hb.output,by rw [h.2.2.2.1];exact hb.size,fun k hk=>(h.2.2.2.2 k (fun hD=>by have:=(hm.2 k hD).1;omega)).trans (hb.block k hk)⟩
theorem Unmarked.below {base:Nat} {Ds:List Nat} {W W' W0:World} (h:Unmarked Ds W W') (hm:Marks base Ds W) (hb:Below base W0 W):Below base W0 W' :=
 ⟨h.1.trans hb.os,h.2.1.trans hb.tape,h.2.2.1.trans hb.output,by rw [h.2.2.2.1];exact hb.size,fun k hk=>(h.2.2.2.2 k (fun hD=>by have:=(hm.2 k hD).1;omega)).trans (hb.block k hk)⟩
theorem leaves_marks {F:Fence} {n:Nat} {P:Program} {fn:Func} {tmps:Array Value} {R:Ending→World→Prop} {base:Nat}:∀(Ds:List Nat) (W:World),Marks base Ds W→(∀W',Unmarked Ds W W'→LeavesIn F n P fn tmps R [] .returning W')→LeavesInM F n P fn tmps R (Ds.map markD) .returning W:=by
 intro Ds
 induction Ds with
 | nil=>exact fun W _ h=>h W ⟨rfl,rfl,rfl,rfl,fun _ _=>rfl⟩
 | cons D r ih =>
  intro W hm h
  have hD:=hm.2 D List.mem_cons_self
  refine ⟨by simp,.inl ⟨D,W.putObj D (.deferred none),rfl,run_takeDeferred hD.2,?_⟩⟩
  have hg:=grownBy_putObj' W D (.deferred none)
  have hlt:=(Array.getElem?_eq_some_iff.1 hD.2).1
  have hsz:(W.putObj D (.deferred none)).heap.size=W.heap.size:=by simp [World.putObj]
  refine ih _ ⟨(List.pairwise_cons.1 hm.1).2,fun D' h'=>⟨(hm.2 D' (List.mem_cons_of_mem _ h')).1,?_⟩⟩ fun W' hu=>h W' ⟨hu.1.trans hg.os,hu.2.1.trans hg.tape,hu.2.2.1.trans hg.output,hu.2.2.2.1.trans hsz,fun j hj=>?_⟩
  ·have hne:=(List.pairwise_cons.1 hm.1).1 D' h'
   have hm':=hm.2 D' (List.mem_cons_of_mem _ h')
   exact (hg.block D' ((Array.getElem?_eq_some_iff.1 hm'.2).1) (pu5 (by omega))).trans hm'.2
  ·rw [List.mem_cons,not_or] at hj
   rw [hu.2.2.2.2 j hj.2]
   rcases Nat.lt_or_ge j W.heap.size with hj2|hj2
   ·exact hg.block j hj2 (fun e=>hj.1 (Option.some.inj e))
   ·rw [Array.getElem?_eq_none (by rw [hsz];exact hj2),Array.getElem?_eq_none hj2]
end Go.Proofs.YtmhiohnkjpglfaaGreat

