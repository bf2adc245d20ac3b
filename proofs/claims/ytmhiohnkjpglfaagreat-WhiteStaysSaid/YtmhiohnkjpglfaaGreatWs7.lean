import Derived.Test.YtmhiohnkjpglfaaGreatWs6
import Derived.Maps.OwnIn
import Derived.Maps.RangeWalk
import Derived.Carry
import Derived.Test.YtmhiohnkjpglfaaGreatWs4
import Derived.Test.YtmhiohnkjpglfaaGreatWs5
import Derived.Great.BuildSlice
import Derived.RangeFuncCalls
import Derived.OwnWalkIn

namespace Go.Proofs.YtmhiohnkjpglfaaGreat
open Go.RowKit Plain

theorem nodAt_get {ns:List NodV} {j:Nat} {n:NodV} (h:ns[j]?=some n):nodAt ns ((j:Int)+1)=n:=by
 have hj:=(List.getElem?_eq_some_iff.1 h).1
 unfold nodAt
 rw [if_pos (by omega),show ((j:Int)+1 - 1).toNat=j from by omega,h]
 rfl
theorem nodAt_out {ns:List NodV} {i:Int} (h:¬(1≤i∧i≤(ns.length:Int))):nodAt ns i=nod0:=by unfold nodAt;rw [if_neg h]
theorem nodAt_in {ns:List NodV} {i:Int} (h:1≤i∧i≤(ns.length:Int)):∃(j:Nat) (n:NodV),i=(j:Int)+1∧ns[j]?=some n∧nodAt ns i=n:=by
 obtain ⟨j,hj⟩:=Int.eq_ofNat_of_zero_le (show 0≤i - 1 by omega)
 have hl:j < ns.length:=by omega
 refine ⟨j,ns[j],by omega,List.getElem?_eq_getElem hl,?_⟩
 rw [show i=(j:Int)+1 from by omega]
 exact nodAt_get (List.getElem?_eq_getElem hl)
theorem prune_len (ns:List NodV) (s:StW):(pruneW ns s).length=ns.length:=by simp [pruneW]
theorem prune_get {ns:List NodV} {s:StW} {j:Nat} {n:NodV} (h:ns[j]?=some n):(pruneW ns s)[j]?=some (pruneN s.2 (reachW ns s.1 ((j:Int)+1)) ((j:Int)+1) n):=by
 unfold pruneW
 rw [List.getElem?_mapIdx,h]
 rfl
theorem pruneN_zero (t:List (Int×Nat)) (r:Bool) (i:Int):pruneN t r i nod0=nod0:=by
 unfold pruneN
 split <;> simp [nod0,keepE]
theorem prune_at (ns:List NodV) (s:StW) (i:Int):nodAt (pruneW ns s) i=pruneN s.2 (reachW ns s.1 i) i (nodAt ns i):=by
 by_cases h:1≤i∧i≤(ns.length:Int)
 ·obtain ⟨j,n,rfl,hn,e⟩:=nodAt_in h
  rw [e]
  exact nodAt_get (prune_get hn)
 ·rw [nodAt_out h,nodAt_out (by rw [prune_len];exact h),pruneN_zero]
theorem prune_dir (ns:List NodV) (s:StW) (i:Int):isDir (pruneW ns s) i=(isDir ns i&&reachW ns s.1 i):=by
 unfold isDir
 rw [prune_at]
 unfold pruneN
 cases reachW ns s.1 i <;> simp [nod0]
theorem reach_way {ns:List NodV} {l:List WayV} {y:WayV} (h:y∈l):reachW ns l y.ino=true:=by
 unfold reachW
 rw [List.any_eq_true]
 exact ⟨y,h,by simp⟩
theorem reach_ent {ns:List NodV} {l:List WayV} {y:WayV} {e:EntV} (h:y∈l) (he:e∈(nodAt ns y.ino).ents):reachW ns l e.ino=true:=by
 unfold reachW
 rw [List.any_eq_true]
 refine ⟨y,h,?_⟩
 rw [Bool.or_eq_true,List.any_eq_true]
 exact .inr ⟨e,he,by simp⟩
theorem filter_filter_comm {α:Type} (p q:α→Bool) (l:List α):(l.filter p).filter q=(l.filter q).filter p:=by
 simp only [List.filter_filter]
 congr 1
 funext x
 exact Bool.and_comm _ _
theorem map_filter_zip (q : EntV → Bool) : ∀ (l : List EntV) (k : Nat), ((l.zipIdx k).filter (fun x => q x.1)).map (fun x => x.1) = l.filter q
 | [],_=>rfl
 | x::r,k=>by
  rw [List.zipIdx_cons,List.filter_cons,List.filter_cons]
  show (if q x=true then _ else _:List (EntV×Nat)).map _=_
  cases q x
  ·simpa using map_filter_zip q r (k+1)
  ·simpa using map_filter_zip q r (k+1)
def AgreeW (p:Nat) (T:StW) (R:StW):Prop:=R.1 <+: T.1∧∀q:Int×Nat,(∃j y,j < p∧R.1[j]?=some y∧y.ino=q.1)→(q∈T.2↔q∈R.2)
theorem AgreeW.back {ns:List NodV} {T s R:StW} {p m:Nat} (hA:AgreeW m T R) (ho:OkW ns R.1) (k:AddsW p s R) (hp:p≤m):AgreeW p T s:=by
 refine ⟨k.1.trans hA.1,?_⟩
 rintro q ⟨j,y,h1,h2,h3⟩
 rw [hA.2 q ⟨j,y,by omega,pre_get k.1 h2,h3⟩]
 constructor
 ·intro h
  rcases k.2.2 q h with h4|⟨i,z,h4,h5,h6⟩
  ·exact h4
  ·exfalso
   have:=nodup_get ho.2 (pre_get k.1 h2) h5 (h3.trans h6.symm)
   omega
 ·exact k.2.1 q
theorem visit_sim {ns:List NodV} {T s:StW} {p:Nat} (ho:OkW ns s.1) (ha:AheadW p s) (hA:AgreeW (p+1) T (visitW ns p s)):visitW (pruneW ns T) p (s.1,[])=((visitW ns p s).1,[]):=by
 have hvp:=visit_pre (ns:=ns) (p:=p) (s:=s)
 unfold visitW at hA hvp ⊢
 show (match s.1[p]? with|none=>_|some y=>_)=_
 cases hy:s.1[p]? with
 | none=>rfl
 | some y =>
  rw [hy] at hA hvp
  have hym:y∈s.1:=List.mem_of_getElem? hy
  have hyT:y∈T.1:=hA.1.subset (hvp.subset hym)
  have hsim:=fold_sim y.ino p (dirsOf ns (nodAt ns y.ino).ents) s (dirsOf_nodup _ _) (fun x _=>fresh_dir ho ha hy x.2)
  obtain ⟨R,hR⟩:∃R,(dirsOf ns (nodAt ns y.ino).ents).foldl (oneW y.ino p) s=R:=⟨_,rfl⟩
  simp only [hR] at hA hsim hvp ⊢
  have hag:∀k,T.2.contains (y.ino,k)=R.2.contains (y.ino,k):=fun k=>by
   have:=hA.2 (y.ino,k) ⟨p,y,by omega,pre_get hvp hy,rfl⟩
   rw [Bool.eq_iff_iff,List.contains_iff_mem,List.contains_iff_mem]
   exact this
  have hents:(nodAt (pruneW ns T) y.ino).ents=keepE T.2 y.ino (nodAt ns y.ino).ents:=by
   rw [prune_at]
   unfold pruneN
   rw [reach_way hyT]
   rfl
  rw [hents]
  have hmap:((dirsOf ns (nodAt ns y.ino).ents).filter (fun x=>!R.2.contains (y.ino,x.2))).map (fun x=>x.1)=(dirsOf (pruneW ns T) (keepE T.2 y.ino (nodAt ns y.ino).ents)).map (fun x=>x.1):=by
   unfold dirsOf
   rw [map_filter_zip (fun e=>isDir (pruneW ns T) e.ino)]
   unfold keepE
   rw [List.filter_map]
   congr 1
   rw [filter_filter_comm]
   simp only [hag]
   apply List.filter_congr
   intro x hx
   have hxe:x.1∈(nodAt ns y.ino).ents:=by
    have:=List.mem_map_of_mem (f:=fun z:EntV×Nat=>z.1) ((List.mem_filter.1 hx).1)
    simpa using this
   show isDir ns x.1.ino=isDir (pruneW ns T) x.1.ino
   rw [prune_dir,reach_ent hyT hxe,Bool.and_true]
  rw [fold_same y.ino p _ _ s.1 hmap (by rw [hsim.1])]
  exact hsim.1
theorem run_sim {ns : List NodV} {T : StW} : ∀ (f p : Nat) (s : StW), OkW ns s.1 → AheadW p s → p ≤ s.1.length → AgreeW (runW ns f p s).1.length T (runW ns f p s) → runW (pruneW ns T) f p (s.1, []) = ((runW ns f p s).1, [])
 | 0,_,_,_,_,_,_=>rfl
 | f+1,p,s,ho,ha,hp,hA=>by
  unfold runW at hA ⊢
  show (if p < s.1.length then _ else _)=_
  by_cases h:p < s.1.length
  ·simp only [if_pos h] at hA ⊢
   obtain ⟨h1,h2⟩:=visit_adds (p:=p) ho ha
   have ho':=visit_ok (p:=p) ho
   have hl:=h1.1.length_le
   have h3:=run_adds f (p+1) _ ho' h2 (by omega)
   have hl3:=h3.1.1.length_le
   rw [visit_sim ho ha (hA.back (run_ok f (p+1) _ ho') h3.1 (by omega))]
   exact run_sim f (p+1) _ ho' h2 (by omega) hA
  ·simp only [if_neg h]
theorem root_sim {ns:List NodV} {T s:StW} {i:Int} (ho:OkW ns s.1) (ha:AheadW s.1.length s) (hA:AgreeW (rootW ns s i).1.length T (rootW ns s i)):rootW (pruneW ns T) (s.1,[]) i=((rootW ns s i).1,[]):=by
 unfold rootW at hA ⊢
 rw [prune_dir,prune_len]
 show (if (_&&!cameW s.1 i)=true then _ else _)=_
 cases hd:isDir ns i with
 | false=>simp
 | true =>
  cases hc:cameW s.1 i with
  | true=>simp
  | false =>
   rw [hd,hc] at hA
   simp only [Bool.not_false,Bool.and_true,if_true,Bool.true_and] at hA ⊢
   have hpre:s.1 <+: s.1++[⟨i,-1,[]⟩]:=List.prefix_append _ _
   have ha':AheadW s.1.length (s.1++[⟨i,-1,[]⟩],s.2):=ha.adds (fun q h=>.inl h) hpre (Nat.le_refl _)
   have hm:(⟨i,-1,[]⟩:WayV)∈T.1:=hA.1.subset ((run_pre _ _ _).subset (by simp))
   have hr:reachW ns T.1 i=true:=reach_way hm
   rw [hr,if_pos rfl]
   exact run_sim (ns.length - s.1.length) s.1.length _ (ho.snoc (x:=⟨i,-1,[]⟩) hd hc) ha' (by simp) hA
theorem fold_root {ns : List NodV} : ∀ (ff : List Int) (s : StW), OkW ns s.1 → AheadW s.1.length s → OkW ns (ff.foldl (rootW ns) s).1 ∧ AddsW s.1.length s (ff.foldl (rootW ns) s)
 | [],s,ho,_=>⟨ho,AddsW.refl _ _⟩
 | i::r,s,ho,ha=>by
  obtain ⟨h1,h2⟩:=root_adds (i:=i) ho ha
  obtain ⟨h3,h4⟩:=fold_root r _ (root_ok ho) h2
  exact ⟨h3,h1.trans h4 h1.1.length_le⟩
theorem fold_sim' {ns : List NodV} {T : StW} : ∀ (ff : List Int) (s : StW), OkW ns s.1 → AheadW s.1.length s → AgreeW (ff.foldl (rootW ns) s).1.length T (ff.foldl (rootW ns) s) → ff.foldl (rootW (pruneW ns T)) (s.1, []) = ((ff.foldl (rootW ns) s).1, [])
 | [],_,_,_,_=>rfl
 | i::r,s,ho,ha,hA=>by
  obtain ⟨h1,h2⟩:=root_adds (i:=i) ho ha
  obtain ⟨h3,h4⟩:=fold_root r _ (root_ok (i:=i) ho) h2
  simp only [List.foldl_cons] at hA ⊢
  rw [root_sim ho ha (hA.back h3 h4 h4.1.length_le)]
  exact fold_sim' r _ (root_ok ho) h2 hA
theorem prune_walk (ns:List NodV) (ff:List Int):walkW (pruneW ns (walkW ns ff)) ff=((walkW ns ff).1,[]) :=
 fold_sim' ff ([],[]) (OkW.nil_ ns) (fun q h=>(by cases h)) ⟨List.prefix_refl _,fun _ _=>Iff.rfl⟩

def ComesW (ns:List NodV) (s:StW):Prop:=∀q∈s.2,∃e,(nodAt ns q.1).ents[q.2]?=some e∧∃y∈s.1,y.ino=e.ino
theorem ComesW.pre {ns:List NodV} {l r:List WayV} {t:List (Int×Nat)} (h:ComesW ns (l,t)) (hp:l <+: r):ComesW ns (r,t):=fun q hq=>by
 obtain ⟨e,h1,y,h2,h3⟩:=h q hq
 exact ⟨e,h1,y,hp.subset h2,h3⟩
theorem one_comes {ns:List NodV} {d:Int} {p:Nat} {s:StW} {x:EntV×Nat} (h:ComesW ns s) (hx:(nodAt ns d).ents[x.2]?=some x.1):ComesW ns (oneW d p s x):=by
 unfold oneW
 cases hc:cameW s.1 x.1.ino with
 | true =>
  rw [if_pos rfl]
  intro q hq
  rcases List.mem_append.1 hq with h1|h1
  ·exact h q h1
  ·rw [List.mem_singleton] at h1
   subst h1
   exact ⟨x.1,hx,came_iff.1 hc⟩
 | false=>exact ComesW.pre (l:=s.1) h (List.prefix_append _ _)
theorem visit_comes {ns:List NodV} {p:Nat} {s:StW} (h:ComesW ns s):ComesW ns (visitW ns p s):=by
 unfold visitW
 split
 ·exact h
 ·refine foldl_keep (P:=fun s:StW=>ComesW ns s) _ _ h (fun s x hx hs=>one_comes hs ?_)
  have:=List.mem_zipIdx_iff_getElem?.1 (List.mem_filter.1 hx).1
  exact this
theorem run_comes {ns : List NodV} : ∀ (f p : Nat) (s : StW), ComesW ns s → ComesW ns (runW ns f p s)
 | 0,_,_,h=>h
 | f+1,p,s,h=>by
  unfold runW
  split
  ·exact run_comes f _ _ (visit_comes h)
  ·exact h
theorem walk_comes (ns:List NodV) (ff:List Int):ComesW ns (walkW ns ff):=by
 refine foldl_keep (P:=fun s:StW=>ComesW ns s) _ _ (fun q h=>(by cases h)) (fun s i _ hs=>?_)
 unfold rootW
 split
 ·exact run_comes _ _ _ (ComesW.pre (l:=s.1) hs (List.prefix_append _ _))
 ·exact hs
theorem keep_mem {t:List (Int×Nat)} {i:Int} {l:List EntV} {k:Nat} {e:EntV} (h:l[k]?=some e) (ht:(i,k)∉t):e∈keepE t i l:=by
 unfold keepE
 refine List.mem_map.2 ⟨(e,k),List.mem_filter.2 ⟨List.mem_zipIdx_iff_getElem?.2 h,by simpa using ht⟩,rfl⟩
end Go.Proofs.YtmhiohnkjpglfaaGreat

namespace Go.Proofs.YtmhiohnkjpglfaaGreat
open Go.RowKit Go.Shelf Plain

set_option maxRecDepth 100000 in
set_option maxHeartbeats 1600000 in
theorem Of_any {A:Option Addr} {B:Nat} {n c:Nat} {ns:List NodV} {i:Int} (w:World) (h:RdE nodEn w (Under B) A n ns) (hB:B≤w.heap.size) (hm:ns.length≤100000):Calls Tryz.prog 119 #[.agg #[.slice A n c],.int .i64 i] w (NodRet w B (nodAt ns i)):=by
 have hl:=h.1
 obtain ⟨rz0,rz,hbz,-⟩:=rows2 w [.slice A n c] (nodC nod0 (.slice none 0 0) (.slice none 0 0)) 26 67
 have HZ:=hide rz
 have HB:=hide hbz
 have qb:((w.alloc (.cells [Value.slice A n c].toArray 26)).alloc (.cells (nodC nod0 (.slice none 0 0) (.slice none 0 0)).toArray 67)).cell? ⟨w.heap.size,0,none⟩=some (.slice A n c):=rz0.cell 0
 have hN:=h
 by_cases h1:i < 1
 ·have e:nodAt ns i=nod0:=nodAt_out (by omega)
  have d1:decide (i < 1)=true:=by simpa using h1
  rw [e]
  clear h hN rz rz0 hbz e
  go_enter Tryz.func119,Tryz.ntmps119
  go_wp2_with (refine wpList_storeW rfl 67 (.tmp 4) (.tmp 14) rfl 13 nod_size (w.heap.size+1) 67 rfl (nodC nod0 (.slice none 0 0) (.slice none 0 0)) (nodC nod0 (.slice none 0 0) (.slice none 0 0)) rfl HZ.out rfl rfl (nodC_one nod0 none none 0 0 0 0) ?_;intro w9 hr9 hg9 hs9;have HR9:=hide hr9;have HB9:=hide (HB.out.grown hg9 HB.out.size (pu4 (by omega)));clear hr9 hg9 hs9)
  exact bodyPost_ret (res_cell Tryz.results119 rfl nod_agg nod_size HR9.out rfl) rfl (NodRet.of (Nat.le_refl _) (RdE.none_ _ _ _ _) (Nat.le_refl _) (RdE.none_ _ _ _ _) HB9.out hB)
 ·have d1:decide (i < 1)=false:=by simpa using h1
  by_cases h2:(n:Int) < i
  ·have e:nodAt ns i=nod0:=nodAt_out (by omega)
   have d2:decide ((n:Int) < i)=true:=by simpa using h2
   rw [e]
   clear h hN rz rz0 hbz e
   go_enter Tryz.func119,Tryz.ntmps119
   go_wp2_with (refine wpList_storeW rfl 67 (.tmp 4) (.tmp 14) rfl 13 nod_size (w.heap.size+1) 67 rfl (nodC nod0 (.slice none 0 0) (.slice none 0 0)) (nodC nod0 (.slice none 0 0) (.slice none 0 0)) rfl HZ.out rfl rfl (nodC_one nod0 none none 0 0 0 0) ?_;intro w9 hr9 hg9 hs9;have HR9:=hide hr9;have HB9:=hide (HB.out.grown hg9 HB.out.size (pu4 (by omega)));clear hr9 hg9 hs9)
   exact bodyPost_ret (res_cell Tryz.results119 rfl nod_agg nod_size HR9.out rfl) rfl (NodRet.of (Nat.le_refl _) (RdE.none_ _ _ _ _) (Nat.le_refl _) (RdE.none_ _ _ _ _) HB9.out hB)
  ·have d2:decide ((n:Int) < i)=false:=by simpa using h2
   obtain ⟨j,x,rfl,hx,e⟩:=nodAt_in (ns:=ns) (i:=i) (by omega)
   rw [e]
   obtain ⟨b,o,cs,rfl,hbB,hNd,hcell⟩:=hN.get_nod hx
   have hjn:j < n:=by omega
   have hcell1:=fun j' v (hv:cs[j']?=some v)=>(hbz.cell (p:=⟨b,o+j*13+j',none⟩) (Nat.lt_of_lt_of_le hbB hB)).trans (hcell j' v hv)
   obtain ⟨A1,n1,c1,C1,m1,d1',rfl,e2,e3,e4,e5⟩:=hNd
   have HC:=hide hcell1
   have E3:=hide e3
   have E5:=hide e5
   have hw1:IntKind.i64.wrap ((j:Int)+1 - 1)=(j:Int):=by rw [show (j:Int)+1 - 1=j from by omega];exact IntWalk.i64_in _ (by omega)
   have hw2:IntKind.i64.wrap (j:Int)=(j:Int):=IntWalk.i64_in _ (by omega)
   clear h hN rz rz0 hbz e hcell hcell1 e3 e5 hx h1 h2
   go_enter Tryz.func119,Tryz.ntmps119
   go_wp2_with (first|(refine wpList_loadX rfl 67 (.tmp 19) rfl 13 nod_agg nod_size b (o+j*13) rfl (nodC x (.slice A1 n1 c1) (.slice C1 m1 d1')) HC.out rfl ?_)|(refine wpList_storeW rfl 67 (.tmp 4) (.tmp 20) rfl 13 nod_size (w.heap.size+1) 67 rfl (nodC nod0 (.slice none 0 0) (.slice none 0 0)) (nodC x (.slice A1 n1 c1) (.slice C1 m1 d1')) rfl HZ.out rfl rfl (nodC_one x A1 C1 n1 c1 m1 d1') ?_;intro w9 hr9 hg9 hs9;have HR9:=hide hr9;have HB9:=hide (HB.out.grown hg9 HB.out.size (pu4 (by omega)));clear hr9 hg9 hs9))
   exact bodyPost_ret (res_cell Tryz.results119 rfl nod_agg nod_size HR9.out rfl) rfl (NodRet.of e2 E3.out e4 E5.out HB9.out hB)
set_option maxRecDepth 100000 in
set_option maxHeartbeats 1600000 in
theorem node_any {B g:Nat} {ns:List NodV} {i:Int} (w:World) (h:WkN w B g ns) (hB:B≤w.heap.size) (hg:g < w.heap.size) (hm:ns.length≤100000):Calls Tryz.prog 68 #[.pointer (some ⟨g,0,none⟩),.int .i64 i] w (NodRet w B (nodAt ns i)):=by
 have hz:=RowL.new w 67 (nodC nod0 (.slice none 0 0) (.slice none 0 0))
 have hb:=below_new (below_self w) (.cells (nodC nod0 (.slice none 0 0) (.slice none 0 0)).toArray 67)
 obtain ⟨A,n,c,hc,hr0⟩:=h
 have hr:=hr0.under hb hB
 have HR:=hide hr
 have HZ:=hide hz
 have HB:=hide hb
 have hsz:=hb.size
 clear hr hr0 hz hb
 go_enter Tryz.func68,Tryz.ntmps68
 go_wp2_with (first|(go_at_call 119;refine (Of_any _ HR.out (Nat.le_trans hB hsz) hm).mono ?_;rintro e w1 ⟨A1,n1,c1,C1,m1,d1,rfl,e2,e3,e4,e5,hb1⟩;have E3:=hide e3;have E5:=hide e5;have HB1:=hide hb1;clear e3 e5 hb1)|(refine wpList_storeW rfl 67 (.tmp 4) (.tmp 10) rfl 13 nod_size w.heap.size 67 rfl (nodC nod0 (.slice none 0 0) (.slice none 0 0)) (nodC (nodAt ns i) (.slice A1 n1 c1) (.slice C1 m1 d1)) rfl (HZ.out.on HB1.out) rfl rfl (nodC_one _ A1 C1 n1 c1 m1 d1) ?_;intro w9 hr9 hg9 hs9;have HR9:=hide hr9;have HG9:=hide hg9;clear hr9 hg9 hs9))
 have hs1:=HB1.out.size
 have hk:Kept (Under B) w1 w9:=fun b hb=>HG9.out.block b (by unfold Under at hb;omega) (fun e=>by have:=Option.some.inj e;unfold Under at hb;omega)
 exact bodyPost_ret (res_cell Tryz.results68 rfl nod_agg nod_size HR9.out rfl) rfl ⟨A1,n1,c1,C1,m1,d1,rfl,e2,E3.out.mono hk (fun _ h=>h),e4,E5.out.mono hk (fun _ h=>h),(HB.out.trans (HB1.out.mono HB.out.size)).grown HG9.out (by omega) (pu4 (by omega))⟩
set_option maxRecDepth 100000 in
theorem nod_f0 (x:NodV) (d e:Value) (W:World):(Instr.field 67 (.agg (nodC x d e).toArray) 0).run Tryz.prog W=.ok (.int .i64 x.k) W:=by kernel_rfl
set_option maxRecDepth 100000 in
theorem nod_f5 (x:NodV) (D C:Option Addr) (n c m d:Nat) (W:World):(Instr.field 67 (.agg (nodC x (.slice D n c) (.slice C m d)).toArray) 5).run Tryz.prog W=.ok (.slice C m d) W:=by kernel_rfl
set_option maxRecDepth 100000 in
set_option maxHeartbeats 1600000 in
theorem dir_any {B g:Nat} {ns:List NodV} {i:Int} (w:World) (h:WkN w B g ns) (hB:B≤w.heap.size) (hg:g < w.heap.size) (hm:ns.length≤100000):Calls Tryz.prog 116 #[.pointer (some ⟨g,0,none⟩),.int .i64 i] w (BoolB w (isDir ns i)):=by
 have H:=hide h
 obtain ⟨b,hb⟩:∃b,isDir ns i=b:=⟨_,rfl⟩
 have hk:((nodAt ns i).k==1)=b:=by rw [←hb];unfold isDir;rw [Bool.eq_iff_iff];simp
 rw [hb]
 clear h hb
 go_enter Tryz.func116,Tryz.ntmps116
 go_wp2_with (go_at_call 68;refine (node_any _ H.out hB hg hm).mono ?_;rintro e w1 ⟨A1,n1,c1,C1,m1,d1,rfl,-,-,-,-,hb1⟩;have hf:=nod_f0 (nodAt ns i) (.slice A1 n1 c1) (.slice C1 m1 d1))
 go_ret
 exact BoolB.of hb1
end Go.Proofs.YtmhiohnkjpglfaaGreat

namespace Go.Proofs.YtmhiohnkjpglfaaGreat
open Go.RowKit Go.Shelf Plain Go.Maps

def i64 (x:Int):Prop := -9223372036854775808≤x∧x≤9223372036854775807
theorem i64_wf {n:Int} (h:i64 n):(Lit.int .i64 n).wf=true:=by
 unfold i64 at h
 simp [Lit.wf,IntKind.min,IntKind.max,IntKind.signed,IntKind.bits]
 omega
theorem intKey:Keyed Tryz.prog 3:=int_keyed Tryz.underlying3
theorem unit_zero:∀w,(zeroValue 161).run Tryz.prog w=.ok (.agg #[]) w:=fun w=>by kernel_rfl
def SetW (w:World) (b c:Nat) (f:Int→Bool):Prop:=∃D:DataW Unit,w.ownsMap Tryz.prog 3 unitElem b c D∧∀n,i64 n→Maps.has D (.int .i64 n)=f n
section
variable {w w' : World} {b c : Nat} {f : Int → Bool}
theorem SetW.made (w:World):SetW (w.alloc (.map #[] 0)) w.heap.size 0 (fun _=>false):=⟨.map [],World.ownsMap_made w _ _ _,fun _ _=>rfl⟩
theorem SetW.lt (h:SetW w b c f):b < w.heap.size:=by obtain ⟨D,h1,h2⟩:=h;exact h1.lt
theorem SetW.kept {row:Option Nat} (h:SetW w b c f) (hg:w.grownBy w' row) (hne:some b≠row):SetW w' b c f:=by obtain ⟨D,h1,h2⟩:=h;exact ⟨D,h1.kept hg hne,h2⟩
theorem SetW.on (h:SetW w b c f) (hb:Below w.heap.size w w'):SetW w' b c f:=h.kept (grown_below hb) (by simp)
theorem SetW.eq {g:Int→Bool} (h:SetW w b c f) (e:f=g):SetW w b c g:=e ▸ h
theorem SetW.at_ (h:SetW w b c f) (e:w'.heap[b]?=w.heap[b]?):SetW w' b c f:=by
 obtain ⟨D,⟨es,clock,h1,h2⟩,h3⟩:=h
 exact ⟨D,⟨es,clock,e.trans h1,h2⟩,h3⟩
theorem SetW.obj (h:SetW w b c f):∃o:Obj,w.heap[b]?=some o∧(∀x,o≠.deferred x)∧o.isCells=false:=by
 obtain ⟨D,⟨es,clock,h1,_⟩,h2⟩:=h
 exact ⟨_,h1,(fun x e=>by cases e),rfl⟩
theorem SetW.look (h:SetW w b c f) {n:Int} (hn:i64 n):(Instr.lookup 121 (.map (some b)) (.int .i64 n) true).run Tryz.prog w=.ok (.tuple #[.agg #[],.bool (f n)]) w:=by
 obtain ⟨D,h1,h2⟩:=h
 obtain ⟨v,ps,hrun,hv⟩:=h1.look_ok (t:=121) (e:=161) intKey Tryz.underlying121 (unit_zero w) unitElem_mk (keyOf_int_mk Tryz.underlying3 (i64_wf hn))
 obtain ⟨rfl,-⟩:=unitElem_inv hv
 rw [hrun,h2 n hn]
theorem SetW.put (h:SetW w b c f) {n:Int} (hn:i64 n) (hc:c < maxLen):∃w',(Instr.mapUpdate 121 (.map (some b)) (.int .i64 n) (.agg #[])).run Tryz.prog w=.ok () w'∧SetW w' b (c+1) (fun x=>f x||x==n)∧w.grownBy w' (some b):=by
 obtain ⟨D,h1,h2⟩:=h
 obtain ⟨w',hrun,h3,h4⟩:=h1.update (t:=121) (e:=161) intKey Tryz.underlying121 hc (keyOf_int_mk Tryz.underlying3 (i64_wf hn)) unitElem_mk
 have hm:Maps.IsMap D:=h1.isMap
 have hk:WideAt.IsKeyLit (.int .i64 n):=intKey.key (keyOf_int_mk Tryz.underlying3 (i64_wf hn))
 refine ⟨w',hrun,⟨_,h3,fun x hx=>?_⟩,h4⟩
 by_cases e:x=n
 ·subst e
  rw [has_put_same hm hk]
  simp
 ·have hne:Lit.int .i64 x≠Lit.int .i64 n:=by simpa using e
  rw [has_put_other hne,h2 x hx]
  simp [e]
end
set_option maxHeartbeats 800000 in
theorem came_any {g b c:Nat} {f:Int→Bool} {i:Int} {r:Bool} (w:World) (hc:w.cell? ⟨g,2,none⟩=some (.map (some b))) (h:SetW w b c f) (hi:i64 i) (hr:f i=r):Calls Tryz.prog 117 #[.pointer (some ⟨g,0,none⟩),.int .i64 i] w (BoolB w r):=by
 subst hr
 have hl:=h.look hi
 obtain ⟨r,hr⟩:∃r,f i=r:=⟨_,rfl⟩
 rw [hr] at hl ⊢
 clear h hi hr
 go_enter Tryz.func117,Tryz.ntmps117
 go_wp2
 go_ret
 exact BoolB.of (below_new (below_self w) _)
end Go.Proofs.YtmhiohnkjpglfaaGreat

namespace Go.Proofs.YtmhiohnkjpglfaaGreat
open Go.RowKit Go.Shelf Plain

def wayC (y:WayV):List Value:=[.int .i64 y.ino,.int .i64 y.up,.string ⟨y.name.toArray⟩]
def twC (q:Int×Nat):List Value:=[.int .i64 q.1,.int .i64 (q.2:Int)]
def flatW (l:List WayV):List Value:=l.flatMap wayC
def flatT (l:List (Int×Nat)):List Value:=l.flatMap twC
theorem flatW_snoc (l:List WayV) (y:WayV):flatW (l++[y])=flatW l++wayC y:=by simp [flatW]
theorem flatT_snoc (l:List (Int×Nat)) (q:Int×Nat):flatT (l++[q])=flatT l++twC q:=by simp [flatT]
theorem flatW_len (l:List WayV):(flatW l).length=l.length*3:=by
 induction l with
 | nil=>rfl
 | cons x r ih=>rw [show flatW (x::r)=wayC x++flatW r from rfl,List.length_append,ih,List.length_cons];simp only [wayC,List.length_cons,List.length_nil];omega
theorem flatT_len (l:List (Int×Nat)):(flatT l).length=l.length*2:=by
 induction l with
 | nil=>rfl
 | cons x r ih=>rw [show flatT (x::r)=twC x++flatT r from rfl,List.length_append,ih,List.length_cons];simp only [twC,List.length_cons,List.length_nil];omega
def FreeO (o:Obj):Prop:=∀arr t fr,o=.cells arr t fr→t≠149∧t≠126
theorem SetW.not_own {W:World} {b c base e s n:Nat} {f:Int→Bool} {v:Value} {xs:List Value} (h:SetW W b c f) (ho:W.ownsRow base e s v n xs):v.ownBlock=none∨v.ownBlock≠some b:=by
 obtain ⟨o,h1,-,h2⟩:=h.obj
 refine .inr fun e=>?_
 obtain ⟨-,-,o',h3,h4⟩:=own_block ho b e
 rw [h1] at h3
 cases Option.some.inj h3
 rw [h2] at h4
 cases h4
theorem SetW.not_row {W:World} {b c g t:Nat} {f:Int→Bool} {cs:List Value} (h:SetW W b c f) (hr:RowL W g t cs):some g≠some b:=by
 obtain ⟨o,h1,-,h2⟩:=h.obj
 intro e
 have e:=Option.some.inj e
 subst e
 rw [show W.heap[g]?=_ from hr] at h1
 cases Option.some.inj h1
 cases h2
structure TurnW (B g b : Nat) (W W' : World) : Prop where
 os:W'.os=W.os
 tape:W'.tape=W.tape
 output:W'.output=W.output
 size:W.heap.size≤W'.heap.size
 kept:∀(k:Nat) (o:Obj),W.heap[k]?=some o→(k < B∨(k≠g∧k≠b∧FreeO o))→W'.heap[k]?=some o
section
variable {B g b : Nat} {A C E : World}
theorem heap_lt {W:World} {k:Nat} {o:Obj} (h:W.heap[k]?=some o):k < W.heap.size:=(Array.getElem?_eq_some_iff.1 h).1
theorem TurnW.refl (B g b:Nat) (A:World):TurnW B g b A A:=⟨rfl,rfl,rfl,Nat.le_refl _,fun _ _ h _=>h⟩
theorem TurnW.trans (h:TurnW B g b A C) (k:TurnW B g b C E):TurnW B g b A E :=
 ⟨k.os.trans h.os,k.tape.trans h.tape,k.output.trans h.output,Nat.le_trans h.size k.size,fun i o ho hi=>k.kept i o (h.kept i o ho hi) hi⟩
theorem TurnW.of_below (h:Below A.heap.size A C):TurnW B g b A C:=⟨h.os,h.tape,h.output,h.size,fun k _ ho _=>(h.block k (heap_lt ho)).trans ho⟩
theorem TurnW.grown {row:Option Nat} (hg:A.grownBy C row) (hr:∀k,row=some k→B≤k∧(k=g∨k=b∨∀o,A.heap[k]?=some o→¬FreeO o)):TurnW B g b A C :=
 ⟨hg.os,hg.tape,hg.output,hg.size,fun k o ho hk=>(hg.block k (heap_lt ho) (fun e=>by
  obtain ⟨h1,h2⟩:=hr k e.symm
  rcases hk with hk|⟨h3,h4,h5⟩
  ·omega
  ·rcases h2 with h2|h2|h2
   ·exact h3 h2
   ·exact h4 h2
   ·exact h2 o ho h5)).trans ho⟩
theorem not_free {W:World} {base e s n:Nat} {v:Value} {xs:List Value} (h:W.ownsRow base e s v n xs) (he:e=149∨e=126):∀k,v.ownBlock=some k→base≤k∧∀o,W.heap[k]?=some o→¬FreeO o:=by
 intro k hk
 rcases h.2 with ⟨rfl,_⟩|⟨g',cap,cur,rfl,hb,hc,_⟩
 ·cases hk
 ·obtain rfl:g'=k:=Option.some.inj hk
  refine ⟨hb,fun o ho hf=>?_⟩
  rw [hc] at ho
  have:=hf _ _ _ (Option.some.inj ho).symm
  rcases he with rfl|rfl
  ·exact this.1 rfl
  ·exact this.2 rfl
theorem TurnW.own {base e s n:Nat} {v:Value} {xs:List Value} (ho:A.ownsRow base e s v n xs) (he:e=149∨e=126) (hg:A.grownBy C v.ownBlock) (hB:B≤base):TurnW B g b A C :=
 TurnW.grown hg (fun k hk=>by
  obtain ⟨h1,h2⟩:=not_free ho he k hk
  exact ⟨by omega,.inr (.inr h2)⟩)
theorem TurnW.row (h:TurnW B g b A C) {k t:Nat} {cs:List Value} (hr:RowL A k t cs) (h1:k≠g) (h2:k≠b) (h3:t≠149∧t≠126):RowL C k t cs :=
 h.kept k _ hr (.inr ⟨h1,h2,fun arr t' fr e=>by injection e with _ e _;rw [←e];exact h3⟩)
theorem TurnW.low (h:TurnW B g b A C) (hB:B≤A.heap.size) {k:Nat} (hk:k < B):C.heap[k]?=A.heap[k]?:=by
 have hx:A.heap[k]?=some A.heap[k]:=Array.getElem?_eq_getElem (by omega)
 rw [hx]
 exact h.kept k _ hx (.inl hk)
theorem TurnW.below {w:World} (h:TurnW B g b A C) (hb:Below B w A) (hB:B≤A.heap.size):Below B w C:=⟨h.os.trans hb.os,h.tape.trans hb.tape,h.output.trans hb.output,Nat.le_trans hb.size h.size,fun k hk=>(h.low hB hk).trans (hb.block k hk)⟩
theorem TurnW.rd {α:Type} {F:Enc α} (h:TurnW B g b A C) (hB:B≤A.heap.size) {Q:Option Addr} {n:Nat} {l:List α} (hr:RdE F A (Under B) Q n l):RdE F C (Under B) Q n l:=hr.mono (fun _ hk=>h.low hB hk) fun _ h=>h
end
def WkS (B g b:Nat) (ns:List NodV) (s:StW) (W:World):Prop :=
 ∃A n c A1 n1 c1 A2 n2 c2,B≤g∧B≤b∧RowL W g 124 [.slice A n c,.slice A1 n1 c1,.map (some b),.slice A2 n2 c2]∧RdE nodEn W (Under B) A n ns∧W.ownsRow B 149 3 (.slice A1 n1 c1) n1 (flatW s.1)∧SetW W b n1 (cameW s.1)∧W.ownsRow B 126 2 (.slice A2 n2 c2) n2 (flatT s.2)
section
variable {B g b : Nat} {ns : List NodV} {s : StW} {W W' : World}
theorem WkS.on (h:WkS B g b ns s W) (hb:Below W.heap.size W W'):WkS B g b ns s W':=by
 obtain ⟨A,n,c,A1,n1,c1,A2,n2,c2,h1,h2,h3,h4,h5,h6,h7⟩:=h
 exact ⟨A,n,c,A1,n1,c1,A2,n2,c2,h1,h2,h3.on hb,h4.under hb (by have:=h3.lt;omega),ownsRow_below h5 hb,h6.on hb,ownsRow_below h7 hb⟩
theorem WkS.lt (h:WkS B g b ns s W):B≤g∧g < W.heap.size∧B≤b∧b < W.heap.size:=by
 obtain ⟨A,n,c,A1,n1,c1,A2,n2,c2,h1,h2,h3,h4,h5,h6,h7⟩:=h
 exact ⟨h1,h3.lt,h2,h6.lt⟩
theorem WkS.n (h:WkS B g b ns s W):WkN W B g ns:=by
 obtain ⟨A,n,c,A1,n1,c1,A2,n2,c2,h1,h2,h3,h4,-⟩:=h
 exact ⟨A,n,c,h3.cell 0,h4⟩
theorem WkS.turned {row:Option Nat} (h:WkS B g b ns s W) (hg:W.grownBy W' row) (hr:∀k,row=some k→∀o,W.heap[k]?=some o→B≤k∧k≠b∧(∀arr t fr,o=.cells arr t fr→t≠149∧t≠126∧t≠124)):WkS B g b ns s W':=by
 obtain ⟨A,n,c,A1,n1,c1,A2,n2,c2,h1,h2,h3,h4,h5,h6,h7⟩:=h
 have hlt:=h3.lt
 have hobj:∀ {base e s n:Nat} {v:Value} {xs:List Value},W.ownsRow base e s v n xs→(e=149∨e=126)→(v.ownBlock=none∨v.ownBlock≠row):=by
  intro base e s n v xs ho he
  rcases ho.2 with ⟨rfl,_⟩|⟨g',cap,cur,rfl,_,hc,_⟩
  ·exact .inl rfl
  ·refine .inr fun e'=>?_
   have h9:=(hr g' e'.symm _ hc).2.2 _ _ _ rfl
   rcases he with rfl|rfl
   ·exact h9.1 rfl
   ·exact h9.2.1 rfl
 refine ⟨A,n,c,A1,n1,c1,A2,n2,c2,h1,h2,h3.grown hg (fun e=>((hr g e.symm _ h3).2.2 _ _ _ rfl).2.2 rfl),h4.mono (fun k hk=>hg.block k (by unfold Under at hk;omega) (fun e=>?_)) (fun _ h=>h),h5.kept hg (hobj h5 (.inl rfl)),h6.kept hg (fun e=>?_),h7.kept hg (hobj h7 (.inr rfl))⟩
 ·unfold Under at hk
  have hx:W.heap[k]?=some W.heap[k]:=Array.getElem?_eq_getElem (by omega)
  have:=(hr k e.symm _ hx).1
  omega
 ·obtain ⟨o,ho,-⟩:=h6.obj
  exact (hr b e.symm _ ho).2.1 rfl
end
set_option maxRecDepth 100000 in
theorem way_agg:∀w,(isAgg 149).run Tryz.prog w=.ok true w:=fun w=>by kernel_rfl
set_option maxRecDepth 100000 in
theorem way_size:∀w,(Go.sizeOf 149).run Tryz.prog w=.ok 3 w:=fun w=>by kernel_rfl
def zway:Value:=.agg #[.int .i64 0,.int .i64 0,.string ⟨#[]⟩]
set_option maxRecDepth 100000 in
theorem way_info:(Tryz.prog.info? 149).map (fun i=>(i.zero,i.size,i.bytes))=some (some zway,3,32):=by kernel_rfl
theorem lit_way (y:WayV) (W:World):(Instr.buildSlice 120 1 #[(0,.agg (wayC y).toArray)]).run Tryz.prog W=.ok (.slice (some ⟨W.heap.size,0,none⟩) 1 1) (W.alloc (.cells (wayC y).toArray 149)):=by
 obtain ⟨it,hi,hz,hsz,-⟩:=info_parts way_info
 refine run_buildSlice W _ 149 1 _ _ it zway Tryz.underlying120 hi hz (by omega) (by omega) ?_
 rw [hsz]
 have:=Great.fill_whole (s:=3) (by omega) [.agg (wayC y).toArray] ((Array.range (1*3)).map (zway.cells[· % zway.cells.size]!)) (by intro v hv;rw [List.mem_singleton] at hv;subst hv;simp [Value.cells,wayC]) (by simp)
 simpa [Value.cells] using this
theorem wp_appF {P : Program} {o : Oper} {a : Act} {K : Act → World → Prop} {Q : Exit → Act → World → Prop} (W3 : World) (base B3 : Nat) (hB3 : W3.heap.size = B3) (s x : Operand) (t e : TypeId)
  (hop:o.op=Op.call {callee:=Callee.builtin Builtin.append,args:=#[s,x],argTypes:=#[t,t]}) (ht:P.underlying t=some (.slice e)) (z:Value) (k k8:Nat) (hinfo:(P.info? e).map (fun i=>(i.zero,i.size,i.bytes))=some (some z,k,k8)) (hz:z.cells.size=k) (hk:0 < k) (hk2:k8≤1000)
  (A1:Option Addr) (n1 c1:Nat) (L1 cs:List Value) (hlen:cs.length=k) (h1c:∀u∈cs,u.oneCell'=true) (hs:a.eval s=.slice A1 n1 c1) (ho1:W3.ownsRow base e k (.slice A1 n1 c1) n1 L1)
  (hx:a.eval x=.slice (some ⟨B3,0,none⟩) 1 1) (hm:n1≤100000) (hb:base≤W3.heap.size)
  (hK:∀A5 c5 W5,W5.ownsRow base e k (.slice A5 (n1+1) c5) (n1+1) (L1++cs)→(W3.alloc (.cells cs.toArray e)).grownBy W5 (Value.slice A1 n1 c1).ownBlock→K (a.put o.dst (.slice A5 (n1+1) c5)) W5) :
  o.wp P a (W3.alloc (.cells cs.toArray e)) K Q:=by
 subst hB3
 obtain ⟨ie,hie,hze,hse,hbe⟩:=info_parts hinfo
 have hc:=(RowL.new W3 e cs).src (off:=0) (m:=k) (l:=cs) (by simp [←hlen]) hlen
 obtain ⟨v',W5,hr,ho5,hg5,_⟩:=run_append_own (P:=P) (W3.alloc (.cells cs.toArray e)) base t o.type e ie z k k8 ht hie hze hse hbe hz hk (.slice A1 n1 c1) n1 L1 (ho1.alloc _) ⟨W3.heap.size,0,none⟩ 1 1 cs (by rw [Nat.one_mul];exact hlen) hc h1c (by simp only [maxLen];omega) (by have:(n1+1)*k8≤100001*1000:=Nat.mul_le_mul (by omega) hk2;omega) (by rw [World.size_alloc];omega)
 obtain ⟨A5,c5,rfl⟩:=owns_slice ho5
 unfold Oper.wp execOp
 simp only [hop,resolve,invoke,builtin,Sem.run_bind,Sem.run_pure,Result.andThen_ok,List.map_toArray,List.map_cons,List.map_nil,hs,hx,hr]
 exact hK A5 c5 W5 ho5 hg5
theorem came_snoc (l:List WayV) (y:WayV):cameW (l++[y])=fun x=>cameW l x||x==y.ino:=by
 funext x
 unfold cameW
 rw [List.any_append,List.any_cons,List.any_nil,Bool.or_false]
 congr 1
 exact BEq.comm
end Go.Proofs.YtmhiohnkjpglfaaGreat

namespace Go.Proofs.YtmhiohnkjpglfaaGreat
open Go

def noDefer (ops:Array Oper):Bool:=ops.toList.all fun o=>match o.op with|.defer _=>false|_=>true
section
variable {P : Program} {ops : Array Oper} {Q : Exit → Act → World → Prop} {S : World → Prop} {l n : Nat}
theorem noDefer_get (h:noDefer ops=true) {i:Nat} {o:Oper} (ho:ops[i]?=some o) (c:Call):o.op≠.defer c:=by
 unfold noDefer at h
 rw [List.all_eq_true] at h
 have hm:o∈ops.toList:=by
  rw [←Array.getElem?_toList] at ho
  exact List.mem_of_getElem? ho
 have:=h o hm
 intro e
 rw [e] at this
 cases this
theorem Oper.wp_round {o:Oper} {a:Act} {w:World} {K:Act→World→Prop} (hd:∀c,o.op≠.defer c) (h:o.wp P a w K Q):o.wpIn (Fence.wide.inRound l) n P a w K Q:=by
 unfold Oper.wpIn
 refine ⟨fun _ _=>trivial,?_⟩
 rw [Oper.semAt_plain _ _ _ hd]
 unfold Oper.wp at h
 revert h
 generalize (execOp a.eval o).run P w=r
 intro h
 cases r with
 | ok x w' =>
  cases x with
  | value v=>exact h
  | skip=>exact h
  | defer d=>exact h
  | enter f args=>exact ⟨(fun hh=>by cases hh),CallsIn.inRound l (callsIn_wide.2 h)⟩
  | row r args =>
   refine ⟨(fun hh=>by cases hh),fun c cs _=>?_⟩
   obtain ⟨v,w'',h1,h2⟩:=h c cs
   exact ⟨v,w'',h1,stepsIn_wide.2 h2⟩
  | _=>exact h.elim
 | halt e w' =>
  cases e with
  | panic v=>exact h
  | _=>exact h.elim
theorem wpAny_round {md:Region.Mode} (hd:noDefer ops=true) (hlo:¬LetsOut Q):∀(fuel:Nat) (listed:Array Bool) (a:Act) (w:World),wpAny P md ops Q fuel listed a w→wpAnyIn (Fence.wide.inRound l) n P md ops Q fuel listed a w:=by
 intro fuel
 induction fuel with
 | zero=>exact fun listed a w h=>h
 | succ fuel ih =>
  intro listed a w h
  refine ⟨h.1,fun i hi=>?_⟩
  have h2:=h.2 i hi
  unfold wpOp at h2
  unfold wpOpIn
  cases ho:ops[i]? with
  | none=>simp only [ho] at h2 ⊢;exact ih _ _ _ h2
  | some o =>
   simp only [ho] at h2 ⊢
   split
   ·rename_i hw
    rw [if_pos hw] at h2
    rcases h2 with h2|⟨_,h3⟩
    ·exact Oper.wp_round (noDefer_get hd ho) (Oper.wp_mono (fun _ _ h=>ih _ _ _ h) h2)
    ·exact absurd h3 hlo
   ·rename_i hw
    rw [if_neg hw] at h2
    exact ⟨fun _ _=>trivial,ih _ _ _ h2⟩
end
end Go.Proofs.YtmhiohnkjpglfaaGreat

