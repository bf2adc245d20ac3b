import Derived.Test.YtpndfahgflgocaaGreatDoorLn3
import Derived.Test.YtpndfahgflgocaaGreatDoorLn2
import Derived.Test.YtpndfahgflgocaaGreatDoorLn10
import Derived.StillTailTactics
import Derived.Test.YtpndfahgflgocaaGreatDoorProg
import Derived.Test.YtpndfahgflgocaaGreatDoorLn17
import Derived.Test.YtpndfahgflgocaaGreatDoorLn4
import Derived.Test.YtpndfahgflgocaaGreatDoorLn16

namespace Go.Proofs.YtpndfahgflgocaaGreatDoor
open Go.RowKit Go.Shelf Plain
structure FinV where
 (c l i s:Int)
 deriving DecidableEq
def finC (x:FinV):List Value:=[.int .i64 x.c,.int .i64 x.l,.int .i64 x.i,.int .i64 x.s]
def finEn : Enc FinV where
 k:=4
 R:=fun _ _ cs x=>cs=finC x
 len:=fun h=>by rw [h];rfl
 one:=fun h v hv=>by
  rw [h] at hv
  simp only [finC,List.mem_cons,List.not_mem_nil,or_false] at hv
  rcases hv with rfl|rfl|rfl|rfl <;> rfl
 mono:=fun h _ _=>h
theorem RdE.get_fin {w:World} {D:Nat→Prop} {A:Option Addr} {n:Nat} {l:List FinV} (h:RdE finEn w D A n l) {i:Nat} {x:FinV} (hx:l[i]?=some x) :
  ∃b o,A=some ⟨b,o,none⟩∧D b∧∀j v,(finC x)[j]?=some v→w.cell? ⟨b,o+i*4+j,none⟩=some v:=by
 have hi:=(List.getElem?_eq_some_iff.1 hx).1
 obtain ⟨b,o,e,hb,hc⟩:=h.2 (by have:=h.1;omega)
 obtain ⟨cs,hcs,hcell⟩:=hc i x hx
 refine ⟨b,o,e,hb,fun j v hv=>?_⟩
 have:=hcell j v (by rw [show cs=finC x from hcs];exact hv)
 rwa [show o+(i*finEn.k+j)=o+i*4+j from by show o+(i*4+j)=o+i*4+j;omega] at this
theorem fin_agg:∀w,(isAgg 37).run Tryz.prog w=.ok true w:=fun w=>by kernel_rfl
theorem fin_size:∀w,(Go.sizeOf 37).run Tryz.prog w=.ok 4 w:=fun w=>by kernel_rfl
set_option maxHeartbeats 1600000 in
set_option maxRecDepth 100000 in
theorem neq_fin (x:FinV) (W:World):(binOp .neq 37 (.agg #[.int .i64 x.c,.int .i64 x.l,.int .i64 x.i,.int .i64 x.s]) (.agg #[.int .i64 x.c,.int .i64 x.l,.int .i64 x.i,.int .i64 x.s])).run Tryz.prog W=.ok (.bool false) W:=by
 simp [go_sem]
set_option maxHeartbeats 800000 in
theorem EqualFin_same {A B:Option Addr} {n m c d:Nat} {L:List FinV} (w:World) (ha:RdE finEn w (Under w.heap.size) A n L) (hb:RdE finEn w (Under w.heap.size) B m L) (hn:n≤140737488355328) :
  Calls Tryz.prog 8 #[.slice A n c,.slice B m d] w (BoolB w true):=by
 obtain rfl:n=m:=by rw [←ha.1,←hb.1]
 have HA:=hide ha
 have HB:=hide hb
 clear ha hb
 have hd:((n:Int) != (n:Int))=false:=by simp
 go_enter Tryz.func8,Tryz.ntmps8
 go_wp2
 go_loopw [13] (fun i wr=>∃j q:Nat,j≤n∧i=.int .i64 j∧wr=w.drewN q) (fun i _=>n - (intOf i).toNat)
 case atStart=>exact ⟨0,0,by omega,rfl,rfl⟩
 case round =>
  obtain ⟨j,q,hj,rfl,rfl⟩:=hrel
  by_cases hlt:j < n
  ·have hl1:j < L.length:=by rw [HA.out.1];exact hlt
   obtain ⟨b1,o1,rfl,-,hc1⟩:=HA.out.get_fin (List.getElem?_eq_getElem hl1)
   obtain ⟨b2,o2,rfl,-,hc2⟩:=HB.out.get_fin (List.getElem?_eq_getElem hl1)
   generalize L[j]=y at hc1 hc2
   have hL1:∀q,(Instr.loadAt 37 (.pointer (some ⟨b1,o1+j*4,none⟩))).run Tryz.prog (w.drewN q)=.ok (.agg #[.int .i64 y.c,.int .i64 y.l,.int .i64 y.i,.int .i64 y.s]) (w.drewN q):=fun q=>run_loadAt_cells (w:=w.drewN q) fin_agg fin_size hc1 rfl
   have hL2:∀q,(Instr.loadAt 37 (.pointer (some ⟨b2,o2+j*4,none⟩))).run Tryz.prog (w.drewN q)=.ok (.agg #[.int .i64 y.c,.int .i64 y.l,.int .i64 y.i,.int .i64 y.s]) (w.drewN q):=fun q=>run_loadAt_cells (w:=w.drewN q) fin_agg fin_size hc2 rfl
   have hne:=fun W=>neq_fin y W
   clear hc1 hc2 hl1
   go_wp2
   refine wp_region_quiet_lit (by kernel_rfl) (by kernel_rfl) ?_
   iterate 3 (quiet_step (fail))
   refine Go.BigFrame.wpQuiet_want rfl (fun K hK=>?_)
   refine quietL 37 (.tmp 18) rfl _ _ rfl (by rintro _ ⟨n',rfl⟩;rw [World.drewN_drewN];exact hL1 _) (hK _ ?_)
   clear hK K
   iterate 3 (quiet_step (fail))
   refine Go.BigFrame.wpQuiet_want rfl (fun K hK=>?_)
   refine quietL 37 (.tmp 22) rfl _ _ rfl (by rintro _ ⟨n',rfl⟩;rw [World.drewN_drewN];exact hL2 _) (hK _ ?_)
   clear hK K
   iterate 1 (quiet_step (fail))
   refine wpQuiet_nil ?_
   rintro _ ⟨nq,rfl⟩
   go_wp2
   go_roundw
   case rel=>exact ⟨j+1,_,by omega,by go_num,rfl⟩
   case measure=>simp [intOf];omega
  ·obtain rfl:j=n:=by omega
   go_wp2
   go_ret
   exact BoolB.of (below_drewN (below_self w) _)
end Go.Proofs.YtpndfahgflgocaaGreatDoor

namespace Go.Proofs.YtpndfahgflgocaaGreatDoor
open Go.RowKit Go.Shelf Plain

def hasO (x:NodV):Bool:=decide (x.att.h / 4 % 2=1)
def stX (up:List NodV) (rs:List Bool) (i:Int) (o:OriV):Bool:=if (nodAt up i).k=4 then true else if (nodAt up i).k=2∨(nodAt up i).k=3 then (rs[(i - 1).toNat]?).getD false&&hasO (nodAt up i)&&decide (orgOf (nodAt up i)=o) else false
def orX (ls:List (List NodV)) (o:OriV):Bool:=(handF ls o).2&&decide ((handF ls o).1.k≠1)
def badX (up:List NodV) (ls:List (List NodV)) (rs:List Bool) (e:EntV):Bool:=!isN e.name||!orX ls (parseH e.name)||!stX up rs e.ino (parseH e.name)
def inX (up:List NodV) (ls:List (List NodV)) (rs:List Bool) (i:Int):Bool:=(entB up 3).any fun e=>decide (e.ino=i)&&!badX up ls rs e
theorem inX_nil {up:List NodV} {ls:List (List NodV)} {rs:List Bool} {i:Int} (h3:entB up 3=[]):inX up ls rs i=false:=by
 unfold inX
 rw [h3]
 rfl
theorem inX_at {up:List NodV} {ls:List (List NodV)} {rs:List Bool} {i:Int} {j:Nat} {e:EntV} (he:(entB up 3)[j]?=some e) (hi:e.ino=i) (hb:badX up ls rs e=false):inX up ls rs i=true:=by
 unfold inX
 refine List.any_eq_true.2 ⟨e,List.mem_of_getElem? he,?_⟩
 rw [hb]
 simp [hi]
theorem inX_none {up:List NodV} {ls:List (List NodV)} {rs:List Bool} {i:Int} (h:∀(j:Nat) e,(entB up 3)[j]?=some e→e.ino=i→badX up ls rs e=true):inX up ls rs i=false:=by
 unfold inX
 refine List.any_eq_false.2 fun e he=>?_
 obtain ⟨j,hj⟩:=List.getElem?_of_mem he
 by_cases hi:e.ino=i
 ·rw [h j e hj hi];simp
 ·simp [hi]
end Go.Proofs.YtpndfahgflgocaaGreatDoor

namespace Go.Proofs.YtpndfahgflgocaaGreatDoor
open Go.RowKit Plain

theorem sum_le {α : Type} {f g : α → Nat} : ∀ {l : List α}, (∀ x ∈ l, f x ≤ g x) → (l.map f).sum ≤ (l.map g).sum
 | [],_=>Nat.le_refl _
 | x::r,h=>by
  simp only [List.map_cons,List.sum_cons]
  exact Nat.add_le_add (h x List.mem_cons_self) (sum_le fun y hy=>h y (List.mem_cons_of_mem _ hy))
theorem sum_eq {α:Type} {f g:α→Nat} {l:List α} (h:∀x∈l,f x=g x):(l.map f).sum=(l.map g).sum:=Nat.le_antisymm (sum_le fun x hx=>Nat.le_of_eq (h x hx)) (sum_le fun x hx=>Nat.le_of_eq (h x hx).symm)
def kidsW (ns:List NodV) (i:Int):List EntV:=(nodAt ns i).ents.filter (fun e=>isDir ns e.ino)
theorem dirs_kids (ns:List NodV) (l:List EntV):(dirsOf ns l).map (fun x=>x.1)=l.filter (fun e=>isDir ns e.ino):=map_filter_zip (fun e=>isDir ns e.ino) l 0
theorem fold_all (d : Int) (p : Nat) : ∀ (xs : List (EntV × Nat)) (s : StW), (xs.foldl (oneW d p) s).2 = [] → (xs.foldl (oneW d p) s).1 = s.1 ++ xs.map (fun x => ⟨x.1.ino, p, x.1.name⟩)
 | [],s,_=>by simp
 | x::r,s,h=>by
  simp only [List.foldl_cons] at h ⊢
  have h1:=fold_all d p r _ h
  rw [h1]
  cases hc:cameW s.1 x.1.ino with
  | true =>
   exfalso
   refine one_more d p [] [] r (oneW d p s x) ?_ h
   unfold oneW
   simp [hc]
  | false =>
   have h2:(oneW d p s x).1=s.1++[⟨x.1.ino,p,x.1.name⟩]:=by unfold oneW;simp [hc]
   rw [h2]
   simp
theorem fold_nil (d:Int) (p:Nat) (xs:List (EntV×Nat)) (s:StW) (h:(xs.foldl (oneW d p) s).2=[]):s.2=[]:=by
 cases hs:s.2 with
 | nil=>rfl
 | cons a r=>exact absurd h (one_more d p [] [] xs s (by rw [hs];simp))
theorem visit_nil {ns:List NodV} {p:Nat} {s:StW} (h:(visitW ns p s).2=[]):s.2=[]:=by
 unfold visitW at h
 split at h
 ·exact h
 ·exact fold_nil _ _ _ _ h
theorem visit_all {ns:List NodV} {p:Nat} {s:StW} {y:WayV} (hy:s.1[p]?=some y) (h:(visitW ns p s).2=[]):(visitW ns p s).1=s.1++(kidsW ns y.ino).map (fun e=>⟨e.ino,p,e.name⟩):=by
 unfold visitW at h ⊢
 rw [hy] at h ⊢
 rw [fold_all _ _ _ _ h]
 congr 1
 unfold kidsW
 rw [←dirs_kids,List.map_map]
 rfl
theorem run_nil {ns : List NodV} : ∀ (n p : Nat) (s : StW), (runW ns n p s).2 = [] → s.2 = []
 | 0,_,_,h=>h
 | n+1,p,s,h=>by
  unfold runW at h
  split at h
  ·exact visit_nil (run_nil n _ _ h)
  ·exact h
def wgt (ns : List NodV) : Nat → Int → Nat
 | 0,_=>0
 | f+1,i=>1+((kidsW ns i).map (fun e=>wgt ns f e.ino)).sum
theorem wgt_mono (ns : List NodV) : ∀ (f : Nat) (i : Int), wgt ns f i ≤ wgt ns (f + 1) i
 | 0,i=>Nat.zero_le _
 | f+1,i=>by
  unfold wgt
  exact Nat.add_le_add_left (sum_le fun e _=>wgt_mono ns f e.ino) 1
theorem wgt_le (ns:List NodV) (f:Nat) (i:Int):wgt ns f i≤1+((kidsW ns i).map (fun e=>wgt ns f e.ino)).sum:=wgt_mono ns f i
theorem run_pot {ns : List NodV} (f : Nat) : ∀ (n p : Nat) (s : StW), p ≤ s.1.length → OkW ns s.1 → ns.length ≤ p + n → (runW ns n p s).2 = [] → p + ((s.1.drop p).map (fun y => wgt ns f y.ino)).sum ≤ (runW ns n p s).1.length
 | 0,p,s,hp,ho,hn,_=>by
  have:=ho.le
  rw [List.drop_eq_nil_of_le (by omega)]
  simpa [runW] using hp
 | n+1,p,s,hp,ho,hn,h=>by
  unfold runW at h ⊢
  by_cases hlt:p < s.1.length
  ·rw [if_pos hlt] at h ⊢
   obtain ⟨y,hy⟩:∃y,s.1[p]?=some y:=⟨_,List.getElem?_eq_getElem hlt⟩
   have hv:=visit_all hy (run_nil n _ _ h)
   have hl:p+1≤(visitW ns p s).1.length:=by rw [hv,List.length_append];omega
   have ih:=run_pot f n (p+1) (visitW ns p s) hl (visit_ok ho) (by omega) h
   refine Nat.le_trans ?_ ih
   rw [hv,List.drop_append_of_le_length (by omega),List.map_append,List.sum_append]
   have hd:s.1.drop p=y::s.1.drop (p+1):=by
    rw [List.drop_eq_getElem_cons hlt]
    congr 1
    exact (List.getElem?_eq_some_iff.1 hy).2
   rw [hd,List.map_cons,List.sum_cons,List.map_map]
   have h2:=wgt_le ns f y.ino
   have h3:((kidsW ns y.ino).map ((fun y:WayV=>wgt ns f y.ino) ∘ fun e=>(⟨e.ino,p,e.name⟩:WayV))).sum=((kidsW ns y.ino).map (fun e=>wgt ns f e.ino)).sum:=rfl
   rw [h3]
   omega
  ·rw [if_neg hlt]
   rw [List.drop_eq_nil_of_le (by omega)]
   simpa using hp
theorem run_pot_at {ns : List NodV} (f : Nat) : ∀ (n p : Nat) (s : StW), p ≤ s.1.length → OkW ns s.1 → ns.length ≤ p + n → (runW ns n p s).2 = [] → ∀ k y, p ≤ k → (runW ns n p s).1[k]? = some y → wgt ns f y.ino + k ≤ (runW ns n p s).1.length
 | 0,p,s,hp,ho,hn,_,k,y,hk,hy=>by
  have:=ho.le
  have h1:=(List.getElem?_eq_some_iff.1 hy).1
  simp only [runW] at h1
  omega
 | n+1,p,s,hp,ho,hn,h,k,y,hk,hy=>by
  by_cases hkp:k=p
  ·subst hkp
   have h1:=run_pot f (n+1) k s hp ho hn h
   by_cases hlt:k < s.1.length
   ·have h2:s.1[k]?=some y:=by
     obtain ⟨t,ht⟩:=run_pre (ns:=ns) (n+1) k s
     rw [←ht,List.getElem?_append_left hlt] at hy
     exact hy
    rw [List.drop_eq_getElem_cons hlt,List.map_cons,List.sum_cons,(List.getElem?_eq_some_iff.1 h2).2] at h1
    omega
   ·unfold runW at hy
    rw [if_neg hlt] at hy
    exact absurd (List.getElem?_eq_some_iff.1 hy).1 hlt
  ·unfold runW at h hy ⊢
   by_cases hlt:p < s.1.length
   ·rw [if_pos hlt] at h hy ⊢
    obtain ⟨z,hz⟩:∃z,s.1[p]?=some z:=⟨_,List.getElem?_eq_getElem hlt⟩
    have hv:=visit_all hz (run_nil n _ _ h)
    exact run_pot_at f n (p+1) (visitW ns p s) (by rw [hv,List.length_append];omega) (visit_ok ho) (by omega) h k y (by omega) hy
   ·rw [if_neg hlt] at hy
    have:=(List.getElem?_eq_some_iff.1 hy).1
    omega
theorem run_kids {ns : List NodV} : ∀ (n p : Nat) (s : StW), p ≤ s.1.length → OkW ns s.1 → ns.length ≤ p + n → (runW ns n p s).2 = [] → ∀ k y e, p ≤ k → (runW ns n p s).1[k]? = some y → e ∈ kidsW ns y.ino → ∃ j, k < j ∧ (runW ns n p s).1[j]? = some ⟨e.ino, k, e.name⟩
 | 0,p,s,hp,ho,hn,_,k,y,e,hk,hy,_=>by
  have:=ho.le
  have h1:=(List.getElem?_eq_some_iff.1 hy).1
  simp only [runW] at h1
  omega
 | n+1,p,s,hp,ho,hn,h,k,y,e,hk,hy,he=>by
  unfold runW at h hy ⊢
  by_cases hlt:p < s.1.length
  ·rw [if_pos hlt] at h hy ⊢
   obtain ⟨z,hz⟩:∃z,s.1[p]?=some z:=⟨_,List.getElem?_eq_getElem hlt⟩
   have hv:=visit_all hz (run_nil n _ _ h)
   by_cases hkp:k=p
   ·subst hkp
    have hpre:=run_pre (ns:=ns) n (k+1) (visitW ns k s)
    have hzy:z=y:=by
     have h1:(visitW ns k s).1[k]?=some z:=by rw [hv,List.getElem?_append_left hlt];exact hz
     have h2:=pre_get hpre h1
     rw [hy] at h2
     exact (Option.some.inj h2).symm
    subst hzy
    obtain ⟨q,hq,hqe⟩:=List.mem_iff_getElem.1 he
    refine ⟨s.1.length+q,by omega,pre_get hpre ?_⟩
    rw [hv,List.getElem?_append_right (by omega),Nat.add_sub_cancel_left,List.getElem?_map,List.getElem?_eq_getElem hq,hqe]
    rfl
   ·exact run_kids n (p+1) (visitW ns p s) (by rw [hv,List.length_append];omega) (visit_ok ho) (by omega) h k y e (by omega) hy he
  ·rw [if_neg hlt] at hy
   have:=(List.getElem?_eq_some_iff.1 hy).1
   omega
def TreeL (ns:List NodV):Prop:=(walkW ns [1]).2=[]
def inW (ns:List NodV) (i:Int):Prop:=∃y∈(walkW ns [1]).1,y.ino=i
theorem walk_one (ns:List NodV):walkW ns [1]=rootW ns ([],[]) 1:=rfl
theorem root_run {ns:List NodV} (h:isDir ns 1=true):walkW ns [1]=runW ns ns.length 0 ([⟨1,-1,[]⟩],[]):=by
 rw [walk_one]
 unfold rootW
 rw [if_pos (by simp [h,cameW])]
 rfl
theorem in_dir {ns:List NodV} {i:Int} (h:inW ns i):isDir ns 1=true:=by
 obtain ⟨y,hy,-⟩:=h
 cases hd:isDir ns 1 with
 | true=>rfl
 | false =>
  rw [walk_one] at hy
  unfold rootW at hy
  rw [hd] at hy
  simp at hy
theorem in_root {ns:List NodV} (h:isDir ns 1=true):inW ns 1:=by
 refine ⟨⟨1,-1,[]⟩,?_,rfl⟩
 rw [root_run h]
 exact (run_pre (ns:=ns) ns.length 0 ([⟨1,-1,[]⟩],[])).subset (by simp)
theorem in_isDir {ns:List NodV} {i:Int} (h:inW ns i):isDir ns i=true:=by
 obtain ⟨y,hy,rfl⟩:=h
 exact (walk_ok ns [1]).1 y hy
def wt (ns:List NodV) (i:Int):Nat:=wgt ns 24 i
theorem wgt_stable {ns : List NodV} (ht : TreeL ns) : ∀ (m k : Nat) (y : WayV), (walkW ns [1]).1[k]? = some y → (walkW ns [1]).1.length ≤ k + m → wgt ns (m + 1) y.ino = wgt ns m y.ino
 | 0,k,y,hy,hk=>by
  have:=(List.getElem?_eq_some_iff.1 hy).1
  omega
 | m+1,k,y,hy,hk=>by
  have hd:=in_dir ⟨y,List.mem_of_getElem? hy,rfl⟩
  unfold wgt
  congr 1
  refine sum_eq fun e he=>?_
  have h1:=ht
  unfold TreeL at h1
  rw [root_run hd] at h1 hy
  obtain ⟨j,hj,hje⟩:=run_kids ns.length 0 ([⟨1,-1,[]⟩],[]) (by simp) ((OkW.nil_ ns).snoc (x:=⟨1,-1,[]⟩) hd rfl) (by omega) h1 k y e (Nat.zero_le _) hy he
  rw [←root_run hd] at hje
  exact wgt_stable ht m j ⟨e.ino,k,e.name⟩ hje (by omega)
theorem tree_wt {ns:List NodV} {i:Int} (ht:TreeL ns) (hl:ns.length≤24) (h:inW ns i):wt ns i=1+((kidsW ns i).map (fun e=>wt ns e.ino)).sum∧wt ns i≤24∧∀e∈kidsW ns i,inW ns e.ino:=by
 have hd:=in_dir h
 obtain ⟨y,hy,rfl⟩:=h
 obtain ⟨k,hk,hky⟩:=List.mem_iff_getElem.1 hy
 have hyk:(walkW ns [1]).1[k]?=some y:=by rw [List.getElem?_eq_getElem hk,hky]
 have hwl:=(walk_ok ns [1]).le
 have h1:=ht
 unfold TreeL at h1
 have ho:=(OkW.nil_ ns).snoc (x:=⟨1,-1,[]⟩) hd rfl
 refine ⟨?_,?_,fun e he=>?_⟩
 ·have:=wgt_stable ht 24 k y hyk (by omega)
  unfold wt
  rw [←this]
  rfl
 ·have h2:=hyk
  rw [root_run hd] at h1 h2
  have:=run_pot_at 24 ns.length 0 ([⟨1,-1,[]⟩],[]) (by simp) ho (by omega) h1 k y (Nat.zero_le _) h2
  rw [←root_run hd] at this
  unfold wt
  omega
 ·have h2:=hyk
  rw [root_run hd] at h1 h2
  obtain ⟨j,-,hj⟩:=run_kids ns.length 0 ([⟨1,-1,[]⟩],[]) (by simp) ho (by omega) h1 k y e (Nat.zero_le _) h2 he
  rw [←root_run hd] at hj
  exact ⟨_,List.mem_of_getElem? hj,rfl⟩
theorem wt_pos {ns:List NodV} (i:Int):1≤wt ns i:=by unfold wt wgt;omega
end Go.Proofs.YtpndfahgflgocaaGreatDoor

namespace Go.Proofs.YtpndfahgflgocaaGreatDoor
open Go.RowKit Plain

def UpV (l:List WayV):Prop:=∀(j:Nat) (y:WayV),l[j]?=some y→(j=0→y.up = -1∧y.ino=1)∧(0 < j→∃p:Nat,y.up=(p:Int)∧p < j)
theorem UpV.snoc {l:List WayV} {p:Nat} {i:Int} {nm:List UInt8} (h:UpV l) (hp:p < l.length):UpV (l++[⟨i,p,nm⟩]):=by
 intro j y hy
 by_cases hj:j < l.length
 ·rw [List.getElem?_append_left hj] at hy
  exact h j y hy
 ·have hj2:j=l.length:=by
   have:=(List.getElem?_eq_some_iff.1 hy).1
   simp at this
   omega
  subst hj2
  simp at hy
  subst hy
  exact ⟨fun h0=>by omega,fun _=>⟨p,rfl,hp⟩⟩
end Go.Proofs.YtpndfahgflgocaaGreatDoor

namespace Go.Proofs.YtpndfahgflgocaaGreatDoor
open Go.RowKit Plain

def againS (up:List NodV) (d:Int) (x:List UInt8):Bool:=match firstB up d x with
 | none=>false
 | some e=>(twiceS up (walkW up [1])).contains (d,e.slot)
def keptS (up:List NodV) (ls:List (List NodV)) (v:ViewV):List (List UInt8):=(namesV up ls v).filter (fun x=>!againS up v.1 x)
abbrev StopV:=ViewV×List (List UInt8)
abbrev ShnV:=List UInt8×Int×(Int×Int)
def pathC (l:List (List UInt8)):List UInt8:=l.flatMap (fun x=>47::x)
def toldX (up:List NodV) (ls:List (List NodV)) (s:StopV) (x:List UInt8):ShnV:=(pathC (s.2++[x]),(stepV up ls s.1 x).1,(stepV up ls s.1 x).2.2)
def nextX (up:List NodV) (ls:List (List NodV)) (s:StopV) (x:List UInt8):StopV:=((stepV up ls s.1 x).2.1,s.2++[x])
def dirX (up:List NodV) (ls:List (List NodV)) (v:ViewV) (x:List UInt8):Bool:=decide ((stepV up ls v x).1=1)
def toldS (up:List NodV) (ls:List (List NodV)) (s:StopV):List ShnV:=(keptS up ls s.1).map (toldX up ls s)
def nextS (up:List NodV) (ls:List (List NodV)) (s:StopV):List StopV:=((keptS up ls s.1).filter (dirX up ls s.1)).map (nextX up ls s)
def tourS (up : List NodV) (ls : List (List NodV)) : Nat → List StopV × List ShnV
 | 0=>([(rootV up ls,[])],[])
 | k+1=>match (tourS up ls k).1[k]? with
  | none=>tourS up ls k
  | some s=>((tourS up ls k).1++nextS up ls s,(tourS up ls k).2++toldS up ls s)
theorem tour_some {up:List NodV} {ls:List (List NodV)} {k:Nat} {s:StopV} (h:(tourS up ls k).1[k]?=some s):tourS up ls (k+1)=((tourS up ls k).1++nextS up ls s,(tourS up ls k).2++toldS up ls s):=by
 show (match (tourS up ls k).1[k]? with|none=>tourS up ls k|some s=>((tourS up ls k).1++nextS up ls s,(tourS up ls k).2++toldS up ls s))=_
 rw [h]
theorem tour_end {up : List NodV} {ls : List (List NodV)} {k : Nat} (h : (tourS up ls k).1.length ≤ k) : ∀ m, tourS up ls (k + m) = tourS up ls k
 | 0=>rfl
 | m+1=>by
  have ih:=tour_end h m
  show (match (tourS up ls (k+m)).1[k+m]? with|none=>tourS up ls (k+m)|some s=>((tourS up ls (k+m)).1++nextS up ls s,(tourS up ls (k+m)).2++toldS up ls s))=_
  rw [ih,List.getElem?_eq_none (by omega)]

def optN (f:EntV→Nat) (o:Option EntV):Nat:=match o with
 | none=>0
 | some e=>f e
theorem sum_erase (f : EntV → Nat) : ∀ {es : List EntV} {e : EntV}, e ∈ es → (es.map f).sum = f e + ((es.erase e).map f).sum
 | [],_,h=>absurd h (by simp)
 | a::r,e,h=>by
  by_cases hae:a=e
  ·subst hae
   rw [List.erase_cons_head,List.map_cons,List.sum_cons]
  ·rcases List.mem_cons.1 h with h|h
   ·exact absurd h.symm hae
   ·rw [List.erase_cons_tail (by simpa using hae),List.map_cons,List.sum_cons,List.map_cons,List.sum_cons,sum_erase f h]
    omega
theorem sum_inj (f : EntV → Nat) (g : List UInt8 → Option EntV) : ∀ (xs : List (List UInt8)) (es : List EntV), xs.Nodup → (∀ x ∈ xs, ∀ e, g x = some e → e ∈ es ∧ e.name = x) → (xs.map (fun x => optN f (g x))).sum ≤ (es.map f).sum
 | [],_,_,_=>by simp
 | x::r,es,hn,h=>by
  rw [List.nodup_cons] at hn
  rw [List.map_cons,List.sum_cons]
  cases hg:g x with
  | none =>
   have:=sum_inj f g r es hn.2 (fun y hy=>h y (List.mem_cons_of_mem _ hy))
   show 0+_≤_
   omega
  | some e =>
   obtain ⟨h1,h2⟩:=h x List.mem_cons_self e hg
   have:=sum_inj f g r (es.erase e) hn.2 (fun y hy e' he'=>by
    obtain ⟨h3,h4⟩:=h y (List.mem_cons_of_mem _ hy) e' he'
    refine ⟨(List.mem_erase_of_ne fun q=>hn.1 ?_).2 h3,h4⟩
    rw [←h2,←q,h4]
    exact hy)
   rw [sum_erase f h1]
   show f e+_≤_
   omega
theorem sum_swap {α β : Type} (f : α → β → Nat) : ∀ (l : List α) (k : List β), (l.map (fun x => (k.map (fun y => f x y)).sum)).sum = (k.map (fun y => (l.map (fun x => f x y)).sum)).sum
 | [],k=>by
  induction k with
  | nil=>rfl
  | cons y r ih=>simpa using ih
 | x::r,k=>by
  rw [List.map_cons,List.sum_cons,sum_swap f r k]
  induction k with
  | nil=>rfl
  | cons y k ih=>simp only [List.map_cons,List.sum_cons] at ih ⊢;omega
theorem sum_add {α : Type} (f g : α → Nat) : ∀ (l : List α), (l.map (fun x => f x + g x)).sum = (l.map f).sum + (l.map g).sum
 | []=>rfl
 | x::r=>by simp only [List.map_cons,List.sum_cons,sum_add f g r];omega
theorem sum_mul {α : Type} (c : Nat) (f : α → Nat) : ∀ (l : List α), (l.map (fun x => c * f x)).sum = c * (l.map f).sum
 | []=>rfl
 | x::r=>by simp only [List.map_cons,List.sum_cons,sum_mul c f r,Nat.mul_add]
theorem rising_nodup {l:List (List UInt8)} (h:Rising l):l.Nodup:=List.Pairwise.imp (fun {a b} hab e=>by subst e;rw [less_irrefl] at hab;cases hab) h
theorem names_nodup (up:List NodV) (ls:List (List NodV)) (v:ViewV):(namesV up ls v).Nodup:=(rising_nodup (sortS_rising (allV up ls v)).1).filter _
theorem keep_nodup (up:List NodV) (ls:List (List NodV)) (v:ViewV):(keptS up ls v).Nodup:=(names_nodup up ls v).filter _
def GoodP (ls:List (List NodV)) (p:Int×Int):Prop:=1≤p.1∧p.1≤(ls.length:Int)∧inW (layL ls p.1) p.2
def wP (ls:List (List NodV)) (p:Int×Int):Nat:=wt (layL ls p.1) p.2
def entP (ls:List (List NodV)) (p:Int×Int) (x:List UInt8):Option EntV:=match firstB (layL ls p.1) p.2 x with
 | none=>none
 | some e=>if (nodAt (layL ls p.1) e.ino).k=1 then some e else none
theorem ent_kids {ns:List NodV} {i:Int} {x:List UInt8} {e:EntV} (h:firstB ns i x=some e) (hk:(nodAt ns e.ino).k=1):e∈kidsW ns i∧e.name=x:=by
 obtain ⟨-,h2,h3⟩:=firstB_use h
 refine ⟨?_,h2⟩
 unfold entB at h3
 split at h3
 ·exact List.mem_filter.2 ⟨h3,by simpa [isDir] using hk⟩
 ·cases h3
theorem entP_kids {ls:List (List NodV)} {p:Int×Int} {x:List UInt8} {e:EntV} (h:entP ls p x=some e):e∈kidsW (layL ls p.1) p.2∧e.name=x:=by
 unfold entP at h
 cases hf:firstB (layL ls p.1) p.2 x with
 | none=>rw [hf] at h;cases h
 | some e' =>
  rw [hf] at h
  simp only at h
  split at h
  ·rename_i hk
   cases h
   exact ent_kids hf hk
  ·cases h
theorem lay_tree {ls:List (List NodV)} (hT:∀ns∈ls,TreeL ns) (hF:FewL ls) {la:Int} (h1:1≤la) (h2:la≤(ls.length:Int)):TreeL (layL ls la)∧(layL ls la).length≤24:=by
 refine ⟨?_,(lay_few hF la).1⟩
 unfold layL
 rw [if_pos ⟨h1,h2⟩]
 have h3:(la - 1).toNat < ls.length:=by omega
 rw [List.getElem?_eq_getElem h3]
 exact hT _ (List.getElem_mem h3)
theorem low_sum {ls:List (List NodV)} (hT:∀ns∈ls,TreeL ns) (hF:FewL ls) {p:Int×Int} (hp:GoodP ls p) {xs:List (List UInt8)} (hn:xs.Nodup):(xs.map (fun x=>optN (fun e=>wP ls (p.1,e.ino)) (entP ls p x))).sum≤wP ls p - 1:=by
 obtain ⟨h1,h2,h3⟩:=hp
 obtain ⟨ht,hl⟩:=lay_tree hT hF h1 h2
 have h4:=(tree_wt ht hl h3).1
 have h5:=sum_inj (fun e=>wP ls (p.1,e.ino)) (entP ls p) xs (kidsW (layL ls p.1) p.2) hn (fun x _ e he=>entP_kids he)
 have h6:wP ls p=1+((kidsW (layL ls p.1) p.2).map (fun e=>wP ls (p.1,e.ino))).sum:=h4
 omega
theorem good_kid {ls:List (List NodV)} (hT:∀ns∈ls,TreeL ns) (hF:FewL ls) {p c:Int×Int} {x:List UInt8} (hp:GoodP ls p) (h:firstL ls p x=some c) (hk:(lowAt ls c.1 c.2).k=1):GoodP ls c∧∃e,entP ls p x=some e∧c=(p.1,e.ino):=by
 rw [first_lay,Option.map_eq_some_iff] at h
 obtain ⟨e,he,rfl⟩:=h
 have hk2:(nodAt (layL ls p.1) e.ino).k=1:=by rw [lay_at];exact hk
 obtain ⟨h1,h2,h3⟩:=hp
 obtain ⟨ht,hl⟩:=lay_tree hT hF h1 h2
 refine ⟨⟨h1,h2,(tree_wt ht hl h3).2.2 e (ent_kids he hk2).1⟩,e,?_,rfl⟩
 unfold entP
 rw [he]
 simp only
 rw [if_pos hk2]
theorem find_good {ls : List (List NodV)} (hT : ∀ ns ∈ ls, TreeL ns) (hF : FewL ls) (x : List UInt8) : ∀ (l acc : List (Int × Int)), (∀ p ∈ l, GoodP ls p) → (∀ p ∈ acc, GoodP ls p) → (findL ls x l acc).1 = 1 → (∀ p ∈ (findL ls x l acc).2, GoodP ls p) ∧ ((findL ls x l acc).2.map (wP ls)).sum ≤ (acc.map (wP ls)).sum + (l.map (fun p => optN (fun e => wP ls (p.1, e.ino)) (entP ls p x))).sum
 | [],acc,_,ha,h=>by
  unfold findL at h ⊢
  split
  ·rename_i h0;rw [if_pos h0] at h;cases h
  ·exact ⟨ha,by simp⟩
 | p::r,acc,hl,ha,h=>by
  have hp:=hl p List.mem_cons_self
  have hr:=fun q hq=>hl q (List.mem_cons_of_mem _ hq)
  unfold findL at h ⊢
  rw [List.map_cons,List.sum_cons]
  cases hx:firstL ls p x with
  | none =>
   rw [hx] at h
   obtain ⟨i1,i2⟩:=find_good hT hF x r acc hr ha h
   exact ⟨i1,by simp only;omega⟩
  | some c =>
   rw [hx] at h
   simp only at h ⊢
   by_cases hk:(lowAt ls c.1 c.2).k=1
   ·rw [if_pos hk] at h ⊢
    obtain ⟨hg,e,he,hc⟩:=good_kid hT hF hp hx hk
    have ha2:∀q∈acc++[c],GoodP ls q:=fun q hq=>by
     rcases List.mem_append.1 hq with hq|hq
     ·exact ha q hq
     ·rw [List.mem_singleton] at hq;rw [hq];exact hg
    have hs:((acc++[c]).map (wP ls)).sum=(acc.map (wP ls)).sum+optN (fun e=>wP ls (p.1,e.ino)) (entP ls p x):=by
     rw [he,hc,List.map_append,List.sum_append]
     simp [optN]
    by_cases ho:opq (lowAt ls c.1 c.2)=true
    ·rw [if_pos ho] at h ⊢
     exact ⟨ha2,by rw [hs];omega⟩
    ·rw [if_neg ho] at h ⊢
     obtain ⟨i1,i2⟩:=find_good hT hF x r (acc++[c]) hr ha2 h
     rw [hs] at i2
     exact ⟨i1,by omega⟩
   ·rw [if_neg hk] at h ⊢
    by_cases h0:acc≠[]
    ·rw [if_pos h0]
     exact ⟨ha,by simp only;omega⟩
    ·rw [if_neg h0] at h
     exfalso
     split at h
     ·cases h
     ·exact hk h
theorem roots_good (ls : List (List NodV)) : ∀ (r : List (List NodV)) (j : Nat), (∀ q, ls[j + q]? = r[q]?) → ∀ p ∈ rootsL r j, GoodP ls p
 | [],_,_,p,h=>by simp [rootsL] at h
 | ns::r,j,hj,p,h=>by
  have h0:ls[j]?=some ns:=by simpa using hj 0
  have hlt:=(List.getElem?_eq_some_iff.1 h0).1
  have hg:(nodAt ns 1).k=1→GoodP ls ((j:Int)+1,1):=fun hk=>by
   refine ⟨by simp only;omega,by simp only;omega,?_⟩
   have:layL ls ((j:Int)+1)=ns:=by
    unfold layL
    rw [if_pos ⟨by omega,by omega⟩,show ((j:Int)+1 - 1).toNat=j by omega,h0]
    rfl
   simp only [this]
   exact in_root (by simpa [isDir] using hk)
  have hr:=roots_good ls r (j+1) (fun q=>by
   have:=hj (q+1)
   rw [show j+(q+1)=j+1+q by omega] at this
   simpa using this)
  unfold rootsL at h
  split at h
  ·rename_i hk
   split at h
   ·rw [List.mem_singleton] at h
    rw [h];exact hg hk
   ·rcases List.mem_cons.1 h with h|h
    ·rw [h];exact hg hk
    ·exact hr p h
  ·exact hr p h
theorem look_good {ls : List (List NodV)} (hT : ∀ ns ∈ ls, TreeL ns) (hF : FewL ls) : ∀ (xs : List (List UInt8)) (l : List (Int × Int)), (∀ p ∈ l, GoodP ls p) → ∀ p ∈ (lookL ls l xs).getD [], GoodP ls p
 | [],l,h=>h
 | x::r,l,h=>by
  unfold lookL
  split
  ·rename_i hk
   exact look_good hT hF r _ (find_good hT hF x l [] h (by simp) hk).1
  ·simp
theorem ben_good {ls:List (List NodV)} (hT:∀ns∈ls,TreeL ns) (hF:FewL ls) {l:List (Int×Int)} (x:List UInt8) (h:∀p∈l,GoodP ls p):∀p∈benV ls l x,GoodP ls p:=by
 unfold benV
 split
 ·rename_i hk
  exact (find_good hT hF x l [] h (by simp) hk).1
 ·simp
theorem roots_all (ls:List (List NodV)):∀p∈rootsL ls 0,GoodP ls p:=roots_good ls ls 0 (fun q=>by rw [Nat.zero_add])
theorem part_good {up:List NodV} {ls:List (List NodV)} (hT:∀ns∈ls,TreeL ns) (hF:FewL ls) {l:List (Int×Int)} (i:Int) (x:List UInt8) (h:∀p∈l,GoodP ls p):∀p∈partV up ls l i x,GoodP ls p:=by
 unfold partV redV
 split
 ·split
  ·simp
  ·split
   ·split
    ·split
     ·exact look_good hT hF _ _ (roots_all ls)
     ·exact ben_good hT hF _ h
    ·simp
   ·exact ben_good hT hF _ h
 ·simp

def upT (up:List NodV):List NodV:=pruneW up (walkW up [1])
theorem upT_tree (up:List NodV):TreeL (upT up):=by unfold TreeL upT;rw [prune_walk]
theorem upT_in (up:List NodV) (i:Int):inW (upT up) i↔inW up i:=by unfold inW upT;rw [prune_walk]
theorem upT_kids {up:List NodV} {i:Int} {e:EntV} {k:Nat} (hi:inW up i) (he:(nodAt up i).ents[k]?=some e) (hd:isDir up e.ino=true) (ht:(i,k)∉(walkW up [1]).2):e∈kidsW (upT up) i:=by
 obtain ⟨y,hy,hyi⟩:=hi
 have hr:reachW up (walkW up [1]).1 i=true:=by rw [←hyi];exact reach_way hy
 refine List.mem_filter.2 ⟨?_,?_⟩
 ·unfold upT
  rw [prune_at]
  unfold pruneN
  rw [if_pos hr]
  exact keep_mem he ht
 ·unfold upT
  rw [prune_dir,hd]
  have:reachW up (walkW up [1]).1 e.ino=true:=reach_ent hy (by rw [hyi];exact List.mem_of_getElem? he)
  simp [this]
def entU (up:List NodV) (d:Int) (x:List UInt8):Option EntV:=match firstB up d x with
 | none=>none
 | some e=>if (nodAt up e.ino).k=1∧againS up d x=false then some e else none
theorem entU_kids {up:List NodV} {d:Int} {x:List UInt8} {e:EntV} (hd:inW up d) (h:entU up d x=some e):e∈kidsW (upT up) d∧e.name=x:=by
 unfold entU at h
 cases hf:firstB up d x with
 | none=>rw [hf] at h;cases h
 | some e' =>
  rw [hf] at h
  simp only at h
  split at h
  ·rename_i hk
   cases h
   obtain ⟨-,h2,h3⟩:=firstB_use hf
   refine ⟨?_,h2⟩
   have h4:e∈(nodAt up d).ents:=by
    unfold entB at h3
    split at h3
    ·exact h3
    ·cases h3
   obtain ⟨k,hkl,hke⟩:=List.mem_iff_getElem.1 h4
   have he:(nodAt up d).ents[k]?=some e:=by rw [List.getElem?_eq_getElem hkl,hke]
   refine upT_kids hd he (by simpa [isDir] using hk.1) fun hm=>?_
   have h5:=hk.2
   unfold againS at h5
   rw [hf] at h5
   have h6:(d,e.slot)∈twiceS up (walkW up [1]):=List.mem_map.2 ⟨(d,k),hm,by unfold slotQ;simp only [he,Option.getD_some]⟩
   simp only at h5
   rw [List.contains_iff_mem.2 h6] at h5
   cases h5
  ·cases h
def GoodV (up:List NodV) (ls:List (List NodV)) (v:ViewV):Prop:=(∀p∈v.2,GoodP ls p)∧v.2.length≤ls.length∧(v.1≠0→inW up v.1)
def potV (up:List NodV) (ls:List (List NodV)) (v:ViewV):Nat:=if v.1=0 then 1+(v.2.map (fun p=>wP ls p - 1)).sum else 73*wt (upT up) v.1
theorem sum_sub {α : Type} (f : α → Nat) : ∀ (l : List α), l ≠ [] → (∀ x ∈ l, 1 ≤ f x) → 1 + (l.map (fun x => f x - 1)).sum ≤ (l.map f).sum
 | [],h,_=>absurd rfl h
 | [x],_,h=>by have:=h x (by simp);simp;omega
 | x::y::r,_,h=>by
  have h1:=sum_sub f (y::r) (by simp) (fun z hz=>h z (List.mem_cons_of_mem _ hz))
  have h2:=h x (by simp)
  rw [List.map_cons,List.sum_cons,List.map_cons,List.sum_cons]
  rw [List.map_cons,List.sum_cons] at h1
  simp only [List.map_cons,List.sum_cons] at h1 ⊢
  omega
theorem few_sum {ls : List (List NodV)} (hT : ∀ ns ∈ ls, TreeL ns) (hF : FewL ls) : ∀ (l : List (Int × Int)), (∀ p ∈ l, GoodP ls p) → (l.map (fun p => wP ls p - 1)).sum ≤ 23 * l.length
 | [],_=>by simp
 | p::r,h=>by
  have h1:=few_sum hT hF r (fun q hq=>h q (List.mem_cons_of_mem _ hq))
  obtain ⟨g1,g2,g3⟩:=h p List.mem_cons_self
  obtain ⟨ht,hl⟩:=lay_tree hT hF g1 g2
  have h2:wP ls p≤24:=(tree_wt ht hl g3).2.1
  rw [List.map_cons,List.sum_cons,List.length_cons]
  omega
theorem next_good {up:List NodV} {ls:List (List NodV)} (hT:∀ns∈ls,TreeL ns) (hF:FewL ls) (hup:FewU up) {v:ViewV} (hv:GoodV up ls v) {x:List UInt8} (hx:x∈keptS up ls v) (hd:(stepV up ls v x).1=1) :
  GoodV up ls (stepV up ls v x).2.1∧potV up ls (stepV up ls v x).2.1≤73*optN (fun e=>wt (upT up) e.ino) (entU up v.1 x)+(v.2.map (fun p=>optN (fun e=>wP ls (p.1,e.ino)) (entP ls p x))).sum:=by
 have hk:=(List.mem_filter.1 hx).2
 have hlen:=stepV_len up ls v x
 have hlen2:(stepV up ls v x).2.1.2.length≤ls.length:=by have:=hv.2.1;omega
 unfold stepV at hd hlen2 ⊢
 cases hf:firstB up v.1 x with
 | none =>
  rw [hf] at hd hlen2
  simp only at hd hlen2 ⊢
  have hkd:=findL_kind hF x v.2 []
  unfold lowStep noStep at hd hlen2 ⊢
  by_cases h0:(findL ls x v.2 []).1=0
  ·rw [if_pos h0] at hd;cases hd
  ·rw [if_neg h0] at hd hlen2 ⊢
   by_cases h1:(findL ls x v.2 []).1=1
   ·rw [if_pos h1] at hd hlen2 ⊢
    obtain ⟨g1,g2⟩:=find_good hT hF x v.2 [] hv.1 (by simp) h1
    refine ⟨⟨g1,hlen2,fun h=>absurd rfl h⟩,?_⟩
    unfold potV
    rw [if_pos rfl]
    have h3:=sum_sub (wP ls) (findL ls x v.2 []).2 (hkd.1.1 (by rw [h1];decide)) (fun p _=>wt_pos p.2)
    simp only [List.map_nil,List.sum_nil,Nat.zero_add] at g2
    simp only
    omega
   ·rw [if_neg h1] at hd
    exact absurd hd h1
 | some e =>
  rw [hf] at hd hlen2
  simp only at hd hlen2 ⊢
  have hag:againS up v.1 x=false:=by simpa using hk
  have hv1:v.1≠0:=fun h0=>by
   obtain ⟨-,-,h3⟩:=firstB_use hf
   rw [h0] at h3
   unfold entB at h3
   rw [nodAt_out (by omega)] at h3
   simp [nod0] at h3
  unfold upStep noStep at hd hlen2 ⊢
  by_cases h1:(nodAt up e.ino).k=1
  ·rw [if_pos h1] at hd hlen2 ⊢
   have hE:entU up v.1 x=some e:=by unfold entU;rw [hf];simp only;rw [if_pos ⟨h1,hag⟩]
   have hin:=hv.2.2 hv1
   have hkid:=(entU_kids hin hE).1
   have hul:(upT up).length≤24:=by unfold upT;rw [prune_len];exact hup.1
   have hin2:inW up e.ino:=(upT_in up e.ino).1 ((tree_wt (upT_tree up) hul ((upT_in up v.1).2 hin)).2.2 e hkid)
   have he0:e.ino≠0:=fun h0=>by
    rw [h0,nodAt_out (by omega)] at h1
    simp [nod0] at h1
   refine ⟨⟨part_good hT hF e.ino x hv.1,hlen2,fun _=>hin2⟩,?_⟩
   unfold potV
   rw [if_neg he0,hE]
   simp only [optN]
   omega
  ·rw [if_neg h1] at hd
   by_cases h4:(nodAt up e.ino).k=4
   ·rw [if_pos h4] at hd;cases hd
   ·rw [if_neg h4] at hd
    exact absurd hd h1
theorem pot_next {up:List NodV} {ls:List (List NodV)} (hT:∀ns∈ls,TreeL ns) (hF:FewL ls) (hup:FewU up) {s:StopV} (hv:GoodV up ls s.1):1+((nextS up ls s).map (fun t=>potV up ls t.1)).sum≤potV up ls s.1:=by
 obtain ⟨xs,hxs⟩:∃xs,(keptS up ls s.1).filter (dirX up ls s.1)=xs:=⟨_,rfl⟩
 have hn:xs.Nodup:=by rw [←hxs];exact (keep_nodup up ls s.1).filter _
 have h1:((nextS up ls s).map (fun t=>potV up ls t.1)).sum≤(xs.map (fun x=>73*optN (fun e=>wt (upT up) e.ino) (entU up s.1.1 x)+(s.1.2.map (fun p=>optN (fun e=>wP ls (p.1,e.ino)) (entP ls p x))).sum)).sum:=by
  unfold nextS
  rw [hxs,List.map_map]
  refine sum_le fun x hx=>?_
  rw [←hxs,List.mem_filter] at hx
  exact (next_good hT hF hup hv hx.1 (by simpa [dirX] using hx.2)).2
 rw [sum_add,sum_mul,sum_swap] at h1
 have h2:(s.1.2.map (fun p=>(xs.map (fun x=>optN (fun e=>wP ls (p.1,e.ino)) (entP ls p x))).sum)).sum≤(s.1.2.map (fun p=>wP ls p - 1)).sum:=sum_le fun p hp=>low_sum hT hF (hv.1 p hp) hn
 by_cases h0:s.1.1=0
 ·have h3:(xs.map (fun x=>optN (fun e=>wt (upT up) e.ino) (entU up s.1.1 x))).sum≤(([]:List EntV).map (fun e=>wt (upT up) e.ino)).sum:=sum_inj (fun e=>wt (upT up) e.ino) (entU up s.1.1) xs [] hn (fun x _ e he=>by
   exfalso
   unfold entU firstB entB at he
   rw [h0,nodAt_out (i:=0) (by omega)] at he
   simp [nod0] at he)
  unfold potV at h1 ⊢
  rw [if_pos h0]
  simp only [List.map_nil,List.sum_nil] at h3
  omega
 ·have hin:=hv.2.2 h0
  have hul:(upT up).length≤24:=by unfold upT;rw [prune_len];exact hup.1
  have h3:=sum_inj (fun e=>wt (upT up) e.ino) (entU up s.1.1) xs (kidsW (upT up) s.1.1) hn (fun x _ e he=>entU_kids hin he)
  have h4:=(tree_wt (upT_tree up) hul ((upT_in up s.1.1).2 hin)).1
  have h5:=few_sum hT hF s.1.2 hv.1
  have h6:=hv.2.1
  have h7:=hF.1
  have h8:potV up ls s.1=73*wt (upT up) s.1.1:=by unfold potV;rw [if_neg h0]
  rw [h8,h4]
  omega
theorem root_good (up:List NodV) (ls:List (List NodV)):GoodV up ls (rootV up ls):=by
 refine ⟨?_,?_,?_⟩
 ·unfold rootV
  simp only
  split
  ·simp
  ·exact roots_all ls
 ·unfold rootV
  simp only
  split
  ·simp
  ·exact rootsL_len ls 0
 ·unfold rootV
  simp only
  split
  ·rename_i h;exact fun _=>in_root (by simpa [isDir] using h)
  ·exact fun h=>absurd rfl h
theorem root_pot {up:List NodV} {ls:List (List NodV)} (hT:∀ns∈ls,TreeL ns) (hF:FewL ls) (hup:FewU up):potV up ls (rootV up ls)≤1800:=by
 have hg:=root_good up ls
 unfold potV
 by_cases h0:(rootV up ls).1=0
 ·rw [if_pos h0]
  have h1:=few_sum hT hF _ hg.1
  have h2:=hg.2.1
  have h3:=hF.1
  omega
 ·rw [if_neg h0]
  have hul:(upT up).length≤24:=by unfold upT;rw [prune_len];exact hup.1
  have:=(tree_wt (upT_tree up) hul ((upT_in up _).2 (hg.2.2 h0))).2.1
  omega
theorem tour_pot {up : List NodV} {ls : List (List NodV)} (hT : ∀ ns ∈ ls, TreeL ns) (hF : FewL ls) (hup : FewU up) : ∀ k, (∀ s ∈ (tourS up ls k).1, GoodV up ls s.1) ∧ (k ≤ (tourS up ls k).1.length → k + (((tourS up ls k).1.drop k).map (fun s => potV up ls s.1)).sum ≤ 1800) ∧ (tourS up ls k).1.length ≤ 1800
 | 0=>by
  refine ⟨fun s hs=>?_,fun _=>?_,by simp [tourS]⟩
  ·simp only [tourS,List.mem_singleton] at hs
   rw [hs];exact root_good up ls
  ·have:=root_pot hT hF hup
   simpa [tourS] using this
 | k+1=>by
  obtain ⟨i1,i2,i3⟩:=tour_pot hT hF hup k
  cases hs:(tourS up ls k).1[k]? with
  | none =>
   have hk:(tourS up ls k).1.length≤k:=by simpa using hs
   rw [tour_end hk 1]
   exact ⟨i1,fun h=>by omega,i3⟩
  | some s =>
   have hlt:=(List.getElem?_eq_some_iff.1 hs).1
   have hsm:=i1 s (List.mem_of_getElem? hs)
   rw [tour_some hs]
   have hpot:=pot_next hT hF hup (s:=s) hsm
   have h4:=i2 (by omega)
   rw [List.drop_eq_getElem_cons hlt,(List.getElem?_eq_some_iff.1 hs).2,List.map_cons,List.sum_cons] at h4
   have h5:k+1+((((tourS up ls k).1++nextS up ls s).drop (k+1)).map (fun s=>potV up ls s.1)).sum≤1800:=by
    rw [List.drop_append_of_le_length (by omega),List.map_append,List.sum_append]
    omega
   have hgood:∀t∈(tourS up ls k).1++nextS up ls s,GoodV up ls t.1:=fun t ht=>by
    rcases List.mem_append.1 ht with ht|ht
    ·exact i1 t ht
    ·unfold nextS at ht
     obtain ⟨x,hx,rfl⟩:=List.mem_map.1 ht
     rw [List.mem_filter] at hx
     exact (next_good hT hF hup hsm hx.1 (by simpa [dirX] using hx.2)).1
   refine ⟨hgood,fun _=>h5,?_⟩
   have h6:(((tourS up ls k).1++nextS up ls s).drop (k+1)).length≤((((tourS up ls k).1++nextS up ls s).drop (k+1)).map (fun s=>potV up ls s.1)).sum:=by
    have h7:∀l:List StopV,l.length≤(l.map (fun s=>potV up ls s.1)).sum:=by
     intro l
     induction l with
     | nil=>simp
     | cons a r ih =>
      rw [List.map_cons,List.sum_cons,List.length_cons]
      have:1≤potV up ls a.1:=by
       unfold potV
       have:=wt_pos (ns:=upT up) a.1.1
       split <;> omega
      omega
    exact h7 _
   rw [List.length_drop] at h6
   have h8:((tourS up ls k).1++nextS up ls s).length=((tourS up ls k).1++nextS up ls s).length:=rfl
   show ((tourS up ls k).1++nextS up ls s).length≤1800
   omega
end Go.Proofs.YtpndfahgflgocaaGreatDoor

