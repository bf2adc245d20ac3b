import Derived.Test.YtpndfahgflgocaaGreatDoorLn3
import Derived.Maps.OwnIn
import Derived.Maps.RangeWalk
import Derived.Carry
import Derived.Test.YtpndfahgflgocaaGreatDoorLn1
import Derived.Deep.RegionHeld3
import Derived.KernelRfl

namespace Go.Proofs.YtpndfahgflgocaaGreatDoor
open Go.RowKit Plain

theorem nodAt_get {ns:List NodV} {j:Nat} {n:NodV} (h:ns[j]?=some n):nodAt ns ((j:Int)+1)=n:=by
 have hj:=(List.getElem?_eq_some_iff.1 h).1
 unfold nodAt
 rw [if_pos (by omega),show ((j:Int)+1 - 1).toNat=j from by omega,h]
 rfl
theorem nodAt_out {ns:List NodV} {i:Int} (h:¬(1≤i∧i≤(ns.length:Int))):nodAt ns i=nod0:=by unfold nodAt;rw [if_neg h]
theorem nodAt_in {ns:List NodV} {i:Int} (h:1≤i∧i≤(ns.length:Int)):∃(j:Nat) (n:NodV),i=(j:Int)+1∧ns[j]?=some n∧nodAt ns i=n:=by
 obtain ⟨j,hj⟩:=Int.eq_ofNat_of_zero_le (show 0≤i - 1 by omega)
 have hl:j < ns.length:=by omega
 refine ⟨j,ns[j],by omega,List.getElem?_eq_getElem hl,?_⟩
 rw [show i=(j:Int)+1 from by omega]
 exact nodAt_get (List.getElem?_eq_getElem hl)
theorem prune_len (ns:List NodV) (s:StW):(pruneW ns s).length=ns.length:=by simp [pruneW]
theorem prune_get {ns:List NodV} {s:StW} {j:Nat} {n:NodV} (h:ns[j]?=some n):(pruneW ns s)[j]?=some (pruneN s.2 (reachW ns s.1 ((j:Int)+1)) ((j:Int)+1) n):=by
 unfold pruneW
 rw [List.getElem?_mapIdx,h]
 rfl
theorem pruneN_zero (t:List (Int×Nat)) (r:Bool) (i:Int):pruneN t r i nod0=nod0:=by
 unfold pruneN
 split <;> simp [nod0,keepE]
theorem prune_at (ns:List NodV) (s:StW) (i:Int):nodAt (pruneW ns s) i=pruneN s.2 (reachW ns s.1 i) i (nodAt ns i):=by
 by_cases h:1≤i∧i≤(ns.length:Int)
 ·obtain ⟨j,n,rfl,hn,e⟩:=nodAt_in h
  rw [e]
  exact nodAt_get (prune_get hn)
 ·rw [nodAt_out h,nodAt_out (by rw [prune_len];exact h),pruneN_zero]
theorem prune_dir (ns:List NodV) (s:StW) (i:Int):isDir (pruneW ns s) i=(isDir ns i&&reachW ns s.1 i):=by
 unfold isDir
 rw [prune_at]
 unfold pruneN
 cases reachW ns s.1 i <;> simp [nod0]
theorem reach_way {ns:List NodV} {l:List WayV} {y:WayV} (h:y∈l):reachW ns l y.ino=true:=by
 unfold reachW
 rw [List.any_eq_true]
 exact ⟨y,h,by simp⟩
theorem reach_ent {ns:List NodV} {l:List WayV} {y:WayV} {e:EntV} (h:y∈l) (he:e∈(nodAt ns y.ino).ents):reachW ns l e.ino=true:=by
 unfold reachW
 rw [List.any_eq_true]
 refine ⟨y,h,?_⟩
 rw [Bool.or_eq_true,List.any_eq_true]
 exact .inr ⟨e,he,by simp⟩
theorem filter_filter_comm {α:Type} (p q:α→Bool) (l:List α):(l.filter p).filter q=(l.filter q).filter p:=by
 simp only [List.filter_filter]
 congr 1
 funext x
 exact Bool.and_comm _ _
theorem map_filter_zip (q : EntV → Bool) : ∀ (l : List EntV) (k : Nat), ((l.zipIdx k).filter (fun x => q x.1)).map (fun x => x.1) = l.filter q
 | [],_=>rfl
 | x::r,k=>by
  rw [List.zipIdx_cons,List.filter_cons,List.filter_cons]
  show (if q x=true then _ else _:List (EntV×Nat)).map _=_
  cases q x
  ·simpa using map_filter_zip q r (k+1)
  ·simpa using map_filter_zip q r (k+1)
def AgreeW (p:Nat) (T:StW) (R:StW):Prop:=R.1 <+: T.1∧∀q:Int×Nat,(∃j y,j < p∧R.1[j]?=some y∧y.ino=q.1)→(q∈T.2↔q∈R.2)
theorem AgreeW.back {ns:List NodV} {T s R:StW} {p m:Nat} (hA:AgreeW m T R) (ho:OkW ns R.1) (k:AddsW p s R) (hp:p≤m):AgreeW p T s:=by
 refine ⟨k.1.trans hA.1,?_⟩
 rintro q ⟨j,y,h1,h2,h3⟩
 rw [hA.2 q ⟨j,y,by omega,pre_get k.1 h2,h3⟩]
 constructor
 ·intro h
  rcases k.2.2 q h with h4|⟨i,z,h4,h5,h6⟩
  ·exact h4
  ·exfalso
   have:=nodup_get ho.2 (pre_get k.1 h2) h5 (h3.trans h6.symm)
   omega
 ·exact k.2.1 q
theorem visit_sim {ns:List NodV} {T s:StW} {p:Nat} (ho:OkW ns s.1) (ha:AheadW p s) (hA:AgreeW (p+1) T (visitW ns p s)):visitW (pruneW ns T) p (s.1,[])=((visitW ns p s).1,[]):=by
 have hvp:=visit_pre (ns:=ns) (p:=p) (s:=s)
 unfold visitW at hA hvp ⊢
 show (match s.1[p]? with|none=>_|some y=>_)=_
 cases hy:s.1[p]? with
 | none=>rfl
 | some y =>
  rw [hy] at hA hvp
  have hym:y∈s.1:=List.mem_of_getElem? hy
  have hyT:y∈T.1:=hA.1.subset (hvp.subset hym)
  have hsim:=fold_sim y.ino p (dirsOf ns (nodAt ns y.ino).ents) s (dirsOf_nodup _ _) (fun x _=>fresh_dir ho ha hy x.2)
  obtain ⟨R,hR⟩:∃R,(dirsOf ns (nodAt ns y.ino).ents).foldl (oneW y.ino p) s=R:=⟨_,rfl⟩
  simp only [hR] at hA hsim hvp ⊢
  have hag:∀k,T.2.contains (y.ino,k)=R.2.contains (y.ino,k):=fun k=>by
   have:=hA.2 (y.ino,k) ⟨p,y,by omega,pre_get hvp hy,rfl⟩
   rw [Bool.eq_iff_iff,List.contains_iff_mem,List.contains_iff_mem]
   exact this
  have hents:(nodAt (pruneW ns T) y.ino).ents=keepE T.2 y.ino (nodAt ns y.ino).ents:=by
   rw [prune_at]
   unfold pruneN
   rw [reach_way hyT]
   rfl
  rw [hents]
  have hmap:((dirsOf ns (nodAt ns y.ino).ents).filter (fun x=>!R.2.contains (y.ino,x.2))).map (fun x=>x.1)=(dirsOf (pruneW ns T) (keepE T.2 y.ino (nodAt ns y.ino).ents)).map (fun x=>x.1):=by
   unfold dirsOf
   rw [map_filter_zip (fun e=>isDir (pruneW ns T) e.ino)]
   unfold keepE
   rw [List.filter_map]
   congr 1
   rw [filter_filter_comm]
   simp only [hag]
   apply List.filter_congr
   intro x hx
   have hxe:x.1∈(nodAt ns y.ino).ents:=by
    have:=List.mem_map_of_mem (f:=fun z:EntV×Nat=>z.1) ((List.mem_filter.1 hx).1)
    simpa using this
   show isDir ns x.1.ino=isDir (pruneW ns T) x.1.ino
   rw [prune_dir,reach_ent hyT hxe,Bool.and_true]
  rw [fold_same y.ino p _ _ s.1 hmap (by rw [hsim.1])]
  exact hsim.1
theorem run_sim {ns : List NodV} {T : StW} : ∀ (f p : Nat) (s : StW), OkW ns s.1 → AheadW p s → p ≤ s.1.length → AgreeW (runW ns f p s).1.length T (runW ns f p s) → runW (pruneW ns T) f p (s.1, []) = ((runW ns f p s).1, [])
 | 0,_,_,_,_,_,_=>rfl
 | f+1,p,s,ho,ha,hp,hA=>by
  unfold runW at hA ⊢
  show (if p < s.1.length then _ else _)=_
  by_cases h:p < s.1.length
  ·simp only [if_pos h] at hA ⊢
   obtain ⟨h1,h2⟩:=visit_adds (p:=p) ho ha
   have ho':=visit_ok (p:=p) ho
   have hl:=h1.1.length_le
   have h3:=run_adds f (p+1) _ ho' h2 (by omega)
   have hl3:=h3.1.1.length_le
   rw [visit_sim ho ha (hA.back (run_ok f (p+1) _ ho') h3.1 (by omega))]
   exact run_sim f (p+1) _ ho' h2 (by omega) hA
  ·simp only [if_neg h]
theorem root_sim {ns:List NodV} {T s:StW} {i:Int} (ho:OkW ns s.1) (ha:AheadW s.1.length s) (hA:AgreeW (rootW ns s i).1.length T (rootW ns s i)):rootW (pruneW ns T) (s.1,[]) i=((rootW ns s i).1,[]):=by
 unfold rootW at hA ⊢
 rw [prune_dir,prune_len]
 show (if (_&&!cameW s.1 i)=true then _ else _)=_
 cases hd:isDir ns i with
 | false=>simp
 | true =>
  cases hc:cameW s.1 i with
  | true=>simp
  | false =>
   rw [hd,hc] at hA
   simp only [Bool.not_false,Bool.and_true,if_true,Bool.true_and] at hA ⊢
   have hpre:s.1 <+: s.1++[⟨i,-1,[]⟩]:=List.prefix_append _ _
   have ha':AheadW s.1.length (s.1++[⟨i,-1,[]⟩],s.2):=ha.adds (fun q h=>.inl h) hpre (Nat.le_refl _)
   have hm:(⟨i,-1,[]⟩:WayV)∈T.1:=hA.1.subset ((run_pre _ _ _).subset (by simp))
   have hr:reachW ns T.1 i=true:=reach_way hm
   rw [hr,if_pos rfl]
   exact run_sim (ns.length - s.1.length) s.1.length _ (ho.snoc (x:=⟨i,-1,[]⟩) hd hc) ha' (by simp) hA
theorem fold_root {ns : List NodV} : ∀ (ff : List Int) (s : StW), OkW ns s.1 → AheadW s.1.length s → OkW ns (ff.foldl (rootW ns) s).1 ∧ AddsW s.1.length s (ff.foldl (rootW ns) s)
 | [],s,ho,_=>⟨ho,AddsW.refl _ _⟩
 | i::r,s,ho,ha=>by
  obtain ⟨h1,h2⟩:=root_adds (i:=i) ho ha
  obtain ⟨h3,h4⟩:=fold_root r _ (root_ok ho) h2
  exact ⟨h3,h1.trans h4 h1.1.length_le⟩
theorem fold_sim' {ns : List NodV} {T : StW} : ∀ (ff : List Int) (s : StW), OkW ns s.1 → AheadW s.1.length s → AgreeW (ff.foldl (rootW ns) s).1.length T (ff.foldl (rootW ns) s) → ff.foldl (rootW (pruneW ns T)) (s.1, []) = ((ff.foldl (rootW ns) s).1, [])
 | [],_,_,_,_=>rfl
 | i::r,s,ho,ha,hA=>by
  obtain ⟨h1,h2⟩:=root_adds (i:=i) ho ha
  obtain ⟨h3,h4⟩:=fold_root r _ (root_ok (i:=i) ho) h2
  simp only [List.foldl_cons] at hA ⊢
  rw [root_sim ho ha (hA.back h3 h4 h4.1.length_le)]
  exact fold_sim' r _ (root_ok ho) h2 hA
theorem prune_walk (ns:List NodV) (ff:List Int):walkW (pruneW ns (walkW ns ff)) ff=((walkW ns ff).1,[]) :=
 fold_sim' ff ([],[]) (OkW.nil_ ns) (fun q h=>(by cases h)) ⟨List.prefix_refl _,fun _ _=>Iff.rfl⟩

def ComesW (ns:List NodV) (s:StW):Prop:=∀q∈s.2,∃e,(nodAt ns q.1).ents[q.2]?=some e∧∃y∈s.1,y.ino=e.ino
theorem ComesW.pre {ns:List NodV} {l r:List WayV} {t:List (Int×Nat)} (h:ComesW ns (l,t)) (hp:l <+: r):ComesW ns (r,t):=fun q hq=>by
 obtain ⟨e,h1,y,h2,h3⟩:=h q hq
 exact ⟨e,h1,y,hp.subset h2,h3⟩
theorem one_comes {ns:List NodV} {d:Int} {p:Nat} {s:StW} {x:EntV×Nat} (h:ComesW ns s) (hx:(nodAt ns d).ents[x.2]?=some x.1):ComesW ns (oneW d p s x):=by
 unfold oneW
 cases hc:cameW s.1 x.1.ino with
 | true =>
  rw [if_pos rfl]
  intro q hq
  rcases List.mem_append.1 hq with h1|h1
  ·exact h q h1
  ·rw [List.mem_singleton] at h1
   subst h1
   exact ⟨x.1,hx,came_iff.1 hc⟩
 | false=>exact ComesW.pre (l:=s.1) h (List.prefix_append _ _)
theorem visit_comes {ns:List NodV} {p:Nat} {s:StW} (h:ComesW ns s):ComesW ns (visitW ns p s):=by
 unfold visitW
 split
 ·exact h
 ·refine foldl_keep (P:=fun s:StW=>ComesW ns s) _ _ h (fun s x hx hs=>one_comes hs ?_)
  have:=List.mem_zipIdx_iff_getElem?.1 (List.mem_filter.1 hx).1
  exact this
theorem run_comes {ns : List NodV} : ∀ (f p : Nat) (s : StW), ComesW ns s → ComesW ns (runW ns f p s)
 | 0,_,_,h=>h
 | f+1,p,s,h=>by
  unfold runW
  split
  ·exact run_comes f _ _ (visit_comes h)
  ·exact h
theorem walk_comes (ns:List NodV) (ff:List Int):ComesW ns (walkW ns ff):=by
 refine foldl_keep (P:=fun s:StW=>ComesW ns s) _ _ (fun q h=>(by cases h)) (fun s i _ hs=>?_)
 unfold rootW
 split
 ·exact run_comes _ _ _ (ComesW.pre (l:=s.1) hs (List.prefix_append _ _))
 ·exact hs
theorem keep_mem {t:List (Int×Nat)} {i:Int} {l:List EntV} {k:Nat} {e:EntV} (h:l[k]?=some e) (ht:(i,k)∉t):e∈keepE t i l:=by
 unfold keepE
 refine List.mem_map.2 ⟨(e,k),List.mem_filter.2 ⟨List.mem_zipIdx_iff_getElem?.2 h,by simpa using ht⟩,rfl⟩
end Go.Proofs.YtpndfahgflgocaaGreatDoor

namespace Go.Proofs.YtpndfahgflgocaaGreatDoor
open Go.RowKit Go.Shelf Plain

theorem inN_at {ns:List NodV} {i:Int} (h:inN ns i=true):∃(j:Nat) (n:NodV),i=(j:Int)+1∧ns[j]?=some n∧nodAt ns i=n:=by
 unfold inN at h
 rw [Bool.and_eq_true,decide_eq_true_eq,decide_eq_true_eq] at h
 exact nodAt_in h
set_option maxRecDepth 100000 in
set_option maxHeartbeats 1600000 in
theorem Of_any {A:Option Addr} {B:Nat} {n c:Nat} {ns:List NodV} {i:Int} (w:World) (h:RdE nodEn w (Under B) A n ns) (hB:B≤w.heap.size) (hm:ns.length≤100000):Calls Tryz.prog 36 #[.agg #[.slice A n c],.int .i64 i] w (NodRet w B (nodAt ns i)):=by
 have hl:=h.1
 obtain ⟨rz0,rz,hbz,-⟩:=rows2 w [.slice A n c] (nodC nod0 (.slice none 0 0) (.slice none 0 0)) 26 51
 have HZ:=hide rz
 have HB:=hide hbz
 have qb:((w.alloc (.cells [Value.slice A n c].toArray 26)).alloc (.cells (nodC nod0 (.slice none 0 0) (.slice none 0 0)).toArray 51)).cell? ⟨w.heap.size,0,none⟩=some (.slice A n c):=rz0.cell 0
 have hN:=h
 by_cases h1:i < 1
 ·have e:nodAt ns i=nod0:=nodAt_out (by omega)
  have d1:decide (i < 1)=true:=by simpa using h1
  rw [e]
  clear h hN rz rz0 hbz e
  go_enter Tryz.func36,Tryz.ntmps36
  go_wp2_with (refine wpList_storeW rfl 51 (.tmp 4) (.tmp 14) rfl 13 nod_size (w.heap.size+1) 51 rfl (nodC nod0 (.slice none 0 0) (.slice none 0 0)) (nodC nod0 (.slice none 0 0) (.slice none 0 0)) rfl HZ.out rfl rfl (nodC_one nod0 none none 0 0 0 0) ?_;intro w9 hr9 hg9 hs9;have HR9:=hide hr9;have HB9:=hide (HB.out.grown hg9 HB.out.size (pu4 (by omega)));clear hr9 hg9 hs9)
  exact bodyPost_ret (res_cell Tryz.results36 rfl nod_agg nod_size HR9.out rfl) rfl (NodRet.of (Nat.le_refl _) (RdE.none_ _ _ _ _) (Nat.le_refl _) (RdE.none_ _ _ _ _) HB9.out hB)
 ·have d1:decide (i < 1)=false:=by simpa using h1
  by_cases h2:(n:Int) < i
  ·have e:nodAt ns i=nod0:=nodAt_out (by omega)
   have d2:decide ((n:Int) < i)=true:=by simpa using h2
   rw [e]
   clear h hN rz rz0 hbz e
   go_enter Tryz.func36,Tryz.ntmps36
   go_wp2_with (refine wpList_storeW rfl 51 (.tmp 4) (.tmp 14) rfl 13 nod_size (w.heap.size+1) 51 rfl (nodC nod0 (.slice none 0 0) (.slice none 0 0)) (nodC nod0 (.slice none 0 0) (.slice none 0 0)) rfl HZ.out rfl rfl (nodC_one nod0 none none 0 0 0 0) ?_;intro w9 hr9 hg9 hs9;have HR9:=hide hr9;have HB9:=hide (HB.out.grown hg9 HB.out.size (pu4 (by omega)));clear hr9 hg9 hs9)
   exact bodyPost_ret (res_cell Tryz.results36 rfl nod_agg nod_size HR9.out rfl) rfl (NodRet.of (Nat.le_refl _) (RdE.none_ _ _ _ _) (Nat.le_refl _) (RdE.none_ _ _ _ _) HB9.out hB)
  ·have d2:decide ((n:Int) < i)=false:=by simpa using h2
   obtain ⟨j,x,rfl,hx,e⟩:=nodAt_in (ns:=ns) (i:=i) (by omega)
   rw [e]
   obtain ⟨b,o,cs,rfl,hbB,hNd,hcell⟩:=hN.get_nod hx
   have hjn:j < n:=by omega
   have hcell1:=fun j' v (hv:cs[j']?=some v)=>(hbz.cell (p:=⟨b,o+j*13+j',none⟩) (Nat.lt_of_lt_of_le hbB hB)).trans (hcell j' v hv)
   obtain ⟨A1,n1,c1,C1,m1,d1',rfl,e2,e3,e4,e5⟩:=hNd
   have HC:=hide hcell1
   have E3:=hide e3
   have E5:=hide e5
   have hw1:IntKind.i64.wrap ((j:Int)+1 - 1)=(j:Int):=by rw [show (j:Int)+1 - 1=j from by omega];exact IntWalk.i64_in _ (by omega)
   have hw2:IntKind.i64.wrap (j:Int)=(j:Int):=IntWalk.i64_in _ (by omega)
   clear h hN rz rz0 hbz e hcell hcell1 e3 e5 hx h1 h2
   go_enter Tryz.func36,Tryz.ntmps36
   go_wp2_with (first|(refine wpList_loadX rfl 51 (.tmp 19) rfl 13 nod_agg nod_size b (o+j*13) rfl (nodC x (.slice A1 n1 c1) (.slice C1 m1 d1')) HC.out rfl ?_)|(refine wpList_storeW rfl 51 (.tmp 4) (.tmp 20) rfl 13 nod_size (w.heap.size+1) 51 rfl (nodC nod0 (.slice none 0 0) (.slice none 0 0)) (nodC x (.slice A1 n1 c1) (.slice C1 m1 d1')) rfl HZ.out rfl rfl (nodC_one x A1 C1 n1 c1 m1 d1') ?_;intro w9 hr9 hg9 hs9;have HR9:=hide hr9;have HB9:=hide (HB.out.grown hg9 HB.out.size (pu4 (by omega)));clear hr9 hg9 hs9))
   exact bodyPost_ret (res_cell Tryz.results36 rfl nod_agg nod_size HR9.out rfl) rfl (NodRet.of e2 E3.out e4 E5.out HB9.out hB)
set_option maxRecDepth 100000 in
set_option maxHeartbeats 1600000 in
theorem node_any {B g:Nat} {ns:List NodV} {i:Int} (w:World) (h:WkN w B g ns) (hB:B≤w.heap.size) (hg:g < w.heap.size) (hm:ns.length≤100000):Calls Tryz.prog 85 #[.pointer (some ⟨g,0,none⟩),.int .i64 i] w (NodRet w B (nodAt ns i)):=by
 have hz:=RowL.new w 51 (nodC nod0 (.slice none 0 0) (.slice none 0 0))
 have hb:=below_new (below_self w) (.cells (nodC nod0 (.slice none 0 0) (.slice none 0 0)).toArray 51)
 obtain ⟨A,n,c,hc,hr0⟩:=h
 have hr:=hr0.under hb hB
 have HR:=hide hr
 have HZ:=hide hz
 have HB:=hide hb
 have hsz:=hb.size
 clear hr hr0 hz hb
 go_enter Tryz.func85,Tryz.ntmps85
 go_wp2_with (first|(go_at_call 36;refine (Of_any _ HR.out (Nat.le_trans hB hsz) hm).mono ?_;rintro e w1 ⟨A1,n1,c1,C1,m1,d1,rfl,e2,e3,e4,e5,hb1⟩;have E3:=hide e3;have E5:=hide e5;have HB1:=hide hb1;clear e3 e5 hb1)|(refine wpList_storeW rfl 51 (.tmp 4) (.tmp 10) rfl 13 nod_size w.heap.size 51 rfl (nodC nod0 (.slice none 0 0) (.slice none 0 0)) (nodC (nodAt ns i) (.slice A1 n1 c1) (.slice C1 m1 d1)) rfl (HZ.out.on HB1.out) rfl rfl (nodC_one _ A1 C1 n1 c1 m1 d1) ?_;intro w9 hr9 hg9 hs9;have HR9:=hide hr9;have HG9:=hide hg9;clear hr9 hg9 hs9))
 have hs1:=HB1.out.size
 have hk:Kept (Under B) w1 w9:=fun b hb=>HG9.out.block b (by unfold Under at hb;omega) (fun e=>by have:=Option.some.inj e;unfold Under at hb;omega)
 exact bodyPost_ret (res_cell Tryz.results85 rfl nod_agg nod_size HR9.out rfl) rfl ⟨A1,n1,c1,C1,m1,d1,rfl,e2,E3.out.mono hk (fun _ h=>h),e4,E5.out.mono hk (fun _ h=>h),(HB.out.trans (HB1.out.mono HB.out.size)).grown HG9.out (by omega) (pu4 (by omega))⟩
set_option maxRecDepth 100000 in
theorem nod_f0 (x:NodV) (d e:Value) (W:World):(Instr.field 51 (.agg (nodC x d e).toArray) 0).run Tryz.prog W=.ok (.int .i64 x.k) W:=by kernel_rfl
set_option maxRecDepth 100000 in
theorem nod_f5 (x:NodV) (D C:Option Addr) (n c m d:Nat) (W:World):(Instr.field 51 (.agg (nodC x (.slice D n c) (.slice C m d)).toArray) 5).run Tryz.prog W=.ok (.slice C m d) W:=by kernel_rfl
set_option maxRecDepth 100000 in
set_option maxHeartbeats 1600000 in
theorem dir_any {B g:Nat} {ns:List NodV} {i:Int} (w:World) (h:WkN w B g ns) (hB:B≤w.heap.size) (hg:g < w.heap.size) (hm:ns.length≤100000):Calls Tryz.prog 82 #[.pointer (some ⟨g,0,none⟩),.int .i64 i] w (BoolB w (isDir ns i)):=by
 have H:=hide h
 obtain ⟨b,hb⟩:∃b,isDir ns i=b:=⟨_,rfl⟩
 have hk:((nodAt ns i).k==1)=b:=by rw [←hb];unfold isDir;rw [Bool.eq_iff_iff];simp
 rw [hb]
 clear h hb
 go_enter Tryz.func82,Tryz.ntmps82
 go_wp2_with (go_at_call 85;refine (node_any _ H.out hB hg hm).mono ?_;rintro e w1 ⟨A1,n1,c1,C1,m1,d1,rfl,-,-,-,-,hb1⟩;have hf:=nod_f0 (nodAt ns i) (.slice A1 n1 c1) (.slice C1 m1 d1))
 go_ret
 exact BoolB.of hb1
end Go.Proofs.YtpndfahgflgocaaGreatDoor

namespace Go.Proofs.YtpndfahgflgocaaGreatDoor
open Go.RowKit Go.Shelf Plain Go.Maps

def i64 (x:Int):Prop := -9223372036854775808≤x∧x≤9223372036854775807
theorem i64_wf {n:Int} (h:i64 n):(Lit.int .i64 n).wf=true:=by
 unfold i64 at h
 simp [Lit.wf,IntKind.min,IntKind.max,IntKind.signed,IntKind.bits]
 omega
theorem intKey:Keyed Tryz.prog 3:=int_keyed Tryz.underlying3
theorem unit_zero:∀w,(zeroValue 164).run Tryz.prog w=.ok (.agg #[]) w:=fun w=>by kernel_rfl
def SetW (w:World) (b c:Nat) (f:Int→Bool):Prop:=∃D:DataW Unit,w.ownsMap Tryz.prog 3 unitElem b c D∧∀n,i64 n→Maps.has D (.int .i64 n)=f n
section
variable {w w' : World} {b c : Nat} {f : Int → Bool}
theorem SetW.made (w:World):SetW (w.alloc (.map #[] 0)) w.heap.size 0 (fun _=>false):=⟨.map [],World.ownsMap_made w _ _ _,fun _ _=>rfl⟩
theorem SetW.lt (h:SetW w b c f):b < w.heap.size:=by obtain ⟨D,h1,h2⟩:=h;exact h1.lt
theorem SetW.kept {row:Option Nat} (h:SetW w b c f) (hg:w.grownBy w' row) (hne:some b≠row):SetW w' b c f:=by obtain ⟨D,h1,h2⟩:=h;exact ⟨D,h1.kept hg hne,h2⟩
theorem SetW.on (h:SetW w b c f) (hb:Below w.heap.size w w'):SetW w' b c f:=h.kept (grown_below hb) (by simp)
theorem SetW.eq {g:Int→Bool} (h:SetW w b c f) (e:f=g):SetW w b c g:=e ▸ h
theorem SetW.at_ (h:SetW w b c f) (e:w'.heap[b]?=w.heap[b]?):SetW w' b c f:=by
 obtain ⟨D,⟨es,clock,h1,h2⟩,h3⟩:=h
 exact ⟨D,⟨es,clock,e.trans h1,h2⟩,h3⟩
theorem SetW.obj (h:SetW w b c f):∃o:Obj,w.heap[b]?=some o∧(∀x,o≠.deferred x)∧o.isCells=false:=by
 obtain ⟨D,⟨es,clock,h1,_⟩,h2⟩:=h
 exact ⟨_,h1,(fun x e=>by cases e),rfl⟩
theorem SetW.look (h:SetW w b c f) {n:Int} (hn:i64 n):(Instr.lookup 141 (.map (some b)) (.int .i64 n) true).run Tryz.prog w=.ok (.tuple #[.agg #[],.bool (f n)]) w:=by
 obtain ⟨D,h1,h2⟩:=h
 obtain ⟨v,ps,hrun,hv⟩:=h1.look_ok (t:=141) (e:=164) intKey Tryz.underlying141 (unit_zero w) unitElem_mk (keyOf_int_mk Tryz.underlying3 (i64_wf hn))
 obtain ⟨rfl,-⟩:=unitElem_inv hv
 rw [hrun,h2 n hn]
theorem SetW.put (h:SetW w b c f) {n:Int} (hn:i64 n) (hc:c < maxLen):∃w',(Instr.mapUpdate 141 (.map (some b)) (.int .i64 n) (.agg #[])).run Tryz.prog w=.ok () w'∧SetW w' b (c+1) (fun x=>f x||x==n)∧w.grownBy w' (some b):=by
 obtain ⟨D,h1,h2⟩:=h
 obtain ⟨w',hrun,h3,h4⟩:=h1.update (t:=141) (e:=164) intKey Tryz.underlying141 hc (keyOf_int_mk Tryz.underlying3 (i64_wf hn)) unitElem_mk
 have hm:Maps.IsMap D:=h1.isMap
 have hk:WideAt.IsKeyLit (.int .i64 n):=intKey.key (keyOf_int_mk Tryz.underlying3 (i64_wf hn))
 refine ⟨w',hrun,⟨_,h3,fun x hx=>?_⟩,h4⟩
 by_cases e:x=n
 ·subst e
  rw [has_put_same hm hk]
  simp
 ·have hne:Lit.int .i64 x≠Lit.int .i64 n:=by simpa using e
  rw [has_put_other hne,h2 x hx]
  simp [e]
end
set_option maxHeartbeats 800000 in
theorem came_any {g b c:Nat} {f:Int→Bool} {i:Int} {r:Bool} (w:World) (hc:w.cell? ⟨g,2,none⟩=some (.map (some b))) (h:SetW w b c f) (hi:i64 i) (hr:f i=r):Calls Tryz.prog 83 #[.pointer (some ⟨g,0,none⟩),.int .i64 i] w (BoolB w r):=by
 subst hr
 have hl:=h.look hi
 obtain ⟨r,hr⟩:∃r,f i=r:=⟨_,rfl⟩
 rw [hr] at hl ⊢
 clear h hi hr
 go_enter Tryz.func83,Tryz.ntmps83
 go_wp2
 go_ret
 exact BoolB.of (below_new (below_self w) _)
end Go.Proofs.YtpndfahgflgocaaGreatDoor

namespace Go.Proofs.YtpndfahgflgocaaGreatDoor
open Go

def planOk (md : Region.Mode) (ops : Array Oper) : Array Bool → List (Nat × Bool) → Bool
 | listed,[]=>(Region.ready md ops listed).isEmpty
 | listed,(i,p)::r=>(if p then Region.free md ops listed i&&(Region.ready md ops listed).contains i else Region.ready md ops listed==[i])&&planOk md ops (listed.setIfInBounds i true) r
def planOps (ops:Array Oper) (ps:List (Nat×Bool)):List (Oper×Bool):=ps.filterMap fun x=>(ops[x.1]?).map fun o=>(o,x.2)

section
variable {P : Program} {ops : Array Oper} {Q : Exit → Act → World → Prop} {S : World → Prop}
def wpPlan (P : Program) (ops : Array Oper) (Q : Exit → Act → World → Prop) (S : World → Prop) : List (Oper × Bool) → Act → World → Prop
 | [],a,w=>Q .normal a w
 | (o,true)::r,a,w=>∃v,YieldsIf P ops S o v a∧wpPlan P ops Q S r (a.put o.dst v) w
 | (o,false)::r,a,w=>if Region.wanted o (yielded ops a.tmps)=true then Oper.wp P o a w (fun a' w'=>S w'∧wpPlan P ops Q S r a' w') Q else wpPlan P ops Q S r (a.put o.dst undef) w
theorem wpPlan_end {a:Act} {w:World} (h:Q .normal a w):wpPlan P ops Q S [] a w:=h
theorem wpPlan_take {o : Oper} {r : List (Oper × Bool)} {a : Act} {w : World} {v : Value} (hw : Region.wanted o (yielded ops a.tmps) = true) (hv : ∀ w, S w → (execOp a.eval o).run P w = .ok (.value v) w)
  (h:wpPlan P ops Q S r (a.put o.dst v) w):wpPlan P ops Q S ((o,true)::r) a w:=⟨v,.inl ⟨hw,hv⟩,h⟩
theorem wpPlan_skip {o : Oper} {r : List (Oper × Bool)} {a : Act} {w : World} {p : Bool} (hw : Region.wanted o (yielded ops a.tmps) = false)
  (h:wpPlan P ops Q S r (a.put o.dst undef) w):wpPlan P ops Q S ((o,p)::r) a w:=by
 cases p with
 | true=>exact ⟨undef,.inr ⟨hw,rfl⟩,h⟩
 | false=>unfold wpPlan;rw [if_neg (by rw [hw];simp)];exact h
theorem wpPlan_call {o : Oper} {r : List (Oper × Bool)} {a : Act} {w : World} (hw : Region.wanted o (yielded ops a.tmps) = true)
  (h:∀K':Act→World→Prop,Shut (∀a' w',S w'→(S w'→wpPlan P ops Q S r a' w')→K' a' w')→Oper.wp P o a w K' Q):wpPlan P ops Q S ((o,false)::r) a w:=by
 unfold wpPlan
 rw [if_pos hw]
 exact h _ (fun a' w' hS hr=>⟨hS,hr hS⟩)

theorem ready_some {md:Region.Mode} {listed:Array Bool} {i:Nat} (h:i∈Region.ready md ops listed):∃o,ops[i]?=some o:=by
 unfold Region.ready at h
 have:=List.mem_range.1 (List.mem_filter.1 h).1
 exact ⟨ops[i],Array.getElem?_eq_getElem this⟩
theorem wpAnyH_plan {md:Region.Mode} (hs:Region.noSelect ops=true) (hQ:∀c a d v w,Q (.panic c) (Act.put a d v) w→Q (.panic c) a w) :
  ∀(ps:List (Nat×Bool)) (fuel:Nat) (listed:Array Bool) (a:Act) (w:World),planOk md ops listed ps=true→ps.length≤fuel→S w→wpPlan P ops Q S (planOps ops ps) a w→wpAnyH P md ops Q S fuel listed a w:=by
 intro ps
 induction ps with
 | nil =>
  intro fuel listed a w hok _ _ h
  exact wpAnyH_done (List.isEmpty_iff.1 hok) h fuel
 | cons x r ih =>
  obtain ⟨i,p⟩:=x
  intro fuel listed a w hok hl hS h
  obtain ⟨fuel,rfl⟩:∃k,fuel=k+1:=⟨fuel - 1,by simp at hl;omega⟩
  have hl':r.length≤fuel:=by simpa using hl
  unfold planOk at hok
  rw [Bool.and_eq_true] at hok
  obtain ⟨h1,h2⟩:=hok
  cases p with
  | true =>
   simp only [if_true,Bool.and_eq_true] at h1
   obtain ⟨o,ho⟩:=ready_some (md:=md) (listed:=listed) (by simpa using h1.2)
   have e:planOps ops ((i,true)::r)=(o,true)::planOps ops r:=by simp [planOps,ho]
   rw [e] at h
   obtain ⟨v,hy,hr⟩:=h
   exact wpAnyH_take ho hs h1.1 h1.2 (fun c a w=>hQ c a _ _ w) hy hS (ih fuel _ _ w h2 hl' hS hr)
  | false =>
   simp only [Bool.false_eq_true,if_false,beq_iff_eq] at h1
   obtain ⟨o,ho⟩:=ready_some (md:=md) (listed:=listed) (i:=i) (by rw [h1];simp)
   have e:planOps ops ((i,false)::r)=(o,false)::planOps ops r:=by simp [planOps,ho]
   rw [e] at h
   refine wpAnyH_all h1 (by simp) (fun j hj=>?_)
   obtain rfl:j=i:=by simpa using hj
   unfold wpOp
   simp only [ho]
   unfold wpPlan at h
   split
   ·rename_i hw
    rw [if_pos hw] at h
    exact .inl (Oper.wp_mono (fun a' w' hk=>⟨hk.1,ih fuel _ _ _ h2 hl' hk.1 hk.2⟩) h)
   ·rename_i hw
    rw [if_neg hw] at h
    exact ⟨hS,ih fuel _ _ w h2 hl' hS h⟩
theorem panic_put (hQ:∀c a k v w,Q (.panic c) (Act.put a (some k) v) w→Q (.panic c) a w):∀c a d v w,Q (.panic c) (Act.put a d v) w→Q (.panic c) a w:=by
 intro c a d v w h
 cases d with
 | none=>exact h
 | some k=>exact hQ c a k v w h
theorem wp_region_plan {id : Nat} {a : Act} {w : World} (S : World → Prop) (ps : List (Nat × Bool)) {l : List (Oper × Bool)} (hm : P.follows .mixedOrders = true) (hok : planOk .any ops (Array.replicate ops.size false) ps = true) (hn : Region.noSelect ops = true) (hlen : decide (ps.length ≤ ops.size) = true)
  (hl:planOps ops ps=l) (hQ:∀c a k v w,Q (.panic c) (Act.put a (some k) v) w→Q (.panic c) a w) (hS:S w.drew) (h:S w.drew→wpPlan P ops Q S l a w.drew):(Code.region id ops true).wp P Q a w:=by
 subst hl
 exact wp_region_held hm (wpAnyH_plan hn (panic_put hQ) ps _ _ _ _ hok (of_decide_eq_true hlen) hS (h hS))
end
end Go.Proofs.YtpndfahgflgocaaGreatDoor

namespace Go.Proofs.YtpndfahgflgocaaGreatDoor
open Go

def lastOk (md:Region.Mode) (ops:Array Oper) (L:Nat):Bool :=
 decide (L < ops.size)&&(List.range ops.size).all fun j=>((ops[j]?).map (·.after.all fun e=>!Region.binds md e||(decide (e.on < j)&&e.on != L))).getD false&&(j==L||((ops[L]?).map (·.after.any fun e=>Region.binds md e&&e.on==j)).getD false)

section
variable {P : Program} {ops : Array Oper} {Q Q' : Exit → Act → World → Prop} {S : World → Prop} {md : Region.Mode}
theorem LetsOut.post (h:∀e a w,e≠.normal→Q e a w→Q' e a w) (hl:LetsOut Q):LetsOut Q':=by
 obtain ⟨a,w,h1⟩:=hl
 exact ⟨a,w,h _ _ _ (by simp) h1⟩
theorem Oper.wp_post {o:Oper} {a:Act} {w:World} {K:Act→World→Prop} (h:∀e a w,e≠.normal→Q e a w→Q' e a w) (hh:o.wp P a w K Q):o.wp P a w K Q':=by
 unfold Oper.wp at *
 generalize (execOp a.eval o).run P w=r at *
 cases r with
 | ok n w' =>
  cases n <;> simp only [Oper.upon] at hh ⊢ <;>
   first
    | exact hh
    | exact Calls.mono hh (fun e w'' he=>by cases e <;> first|exact he|exact h _ _ _ (by simp) he|exact LetsOut.post h he)
 | halt x w'=>cases x <;> simp only [Oper.upon] at hh ⊢ <;> first|exact hh|exact h _ _ _ (by simp) hh
theorem wpOp_post {i:Nat} {a:Act} {w:World} {K:Act→World→Prop} (h:∀e a w,e≠.normal→Q e a w→Q' e a w) (hh:wpOp P ops Q i K a w):wpOp P ops Q' i K a w:=by
 unfold wpOp at *
 split
 ·rename_i ho
  simpa only [ho] using hh
 ·rename_i o ho
  simp only [ho] at hh
  split
  ·rename_i hw
   rw [if_pos hw] at hh
   rcases hh with hh|hh
   ·exact .inl (Oper.wp_post h hh)
   ·exact .inr ⟨hh.1,LetsOut.post h hh.2⟩
  ·rename_i hw
   rw [if_neg hw] at hh
   exact hh

def postL (P : Program) (ops : Array Oper) (Q : Exit → Act → World → Prop) (L : Nat) : Exit → Act → World → Prop
 | .normal,a,w=>wpOp P ops Q L (fun a' w'=>Q .normal a' w') a w
 | e,a,w=>Q e a w
theorem postL_post {L:Nat} (e:Exit) (a:Act) (w:World) (he:e≠.normal) (h:postL P ops Q L e a w):Q e a w:=by
 cases e <;> first|exact absurd rfl he|exact h

theorem mem_ready {listed:Array Bool} {i:Nat}:i∈Region.ready md ops listed↔i < ops.size∧listed.getD i true=false∧∃o,ops[i]?=some o∧∀e∈o.after,Region.binds md e=true→listed.getD e.on false=true:=by
 unfold Region.ready
 rw [List.mem_filter,List.mem_range,Bool.and_eq_true]
 constructor
 ·rintro ⟨h1,h2,h3⟩
  refine ⟨h1,by simpa using h2,?_⟩
  rw [Array.getElem?_eq_getElem h1] at h3 ⊢
  refine ⟨_,rfl,fun e he hb=>?_⟩
  simp only [Option.map_some,Option.getD_some] at h3
  have:=Array.all_eq_true_iff_forall_mem.1 h3 e he
  simpa [hb] using this
 ·rintro ⟨h1,h2,o,ho,h3⟩
  refine ⟨h1,by simpa using h2,?_⟩
  rw [ho]
  simp only [Option.map_some,Option.getD_some]
  refine Array.all_eq_true_iff_forall_mem.2 fun e he=>?_
  cases hb:Region.binds md e with
  | false=>rfl
  | true=>simpa using h3 e he hb

theorem gd_set {listed:Array Bool} {L:Nat} (hL:L < listed.size) (k:Nat) (d:Bool):(listed.setIfInBounds L true).getD k d=if k=L then true else listed.getD k d:=by
 rw [Array.getD_eq_getD_getElem?,Array.getD_eq_getD_getElem?,Array.getElem?_setIfInBounds]
 by_cases h:L=k
 ·subst h
  simp [hL]
 ·rw [if_neg h,if_neg (fun e=>h e.symm)]
theorem gd_tf {listed:Array Bool} {k:Nat} (hk:k < listed.size):listed.getD k true=listed.getD k false:=by
 rw [Array.getD_eq_getD_getElem?,Array.getD_eq_getD_getElem?,Array.getElem?_eq_getElem hk]
 rfl
theorem least {p:Nat→Prop} [DecidablePred p] {n:Nat} (h:∃j,j < n∧p j):∃j,j < n∧p j∧∀i,i < j→¬p i:=by
 obtain ⟨j,hj,hp⟩:=h
 induction j using Nat.strongRecOn with
 | _ j ih =>
  by_cases hm:∃i,i < j∧p i
  ·obtain ⟨i,hi,hpi⟩:=hm
   exact ih i hi (by omega) hpi
  ·exact ⟨j,hj,hp,fun i hi hpi=>hm ⟨i,hi,hpi⟩⟩

theorem lastOk_parts {L:Nat} (hok:lastOk md ops L=true):L < ops.size∧(∀j o,ops[j]?=some o→∀e∈o.after,Region.binds md e=true→e.on < j∧e.on≠L)∧∀j,j < ops.size→j≠L→∀o,ops[L]?=some o→∃e∈o.after,Region.binds md e=true∧e.on=j:=by
 unfold lastOk at hok
 rw [Bool.and_eq_true,decide_eq_true_eq,List.all_eq_true] at hok
 obtain ⟨hL,hall⟩:=hok
 refine ⟨hL,fun j o ho e he hb=>?_,fun j hj hne o ho=>?_⟩
 ·have hj:=(Array.getElem?_eq_some_iff.1 ho).1
  have h1:=hall j (List.mem_range.2 hj)
  rw [Bool.and_eq_true,ho] at h1
  have h2:=h1.1
  simp only [Option.map_some,Option.getD_some] at h2
  have h3:=Array.all_eq_true_iff_forall_mem.1 h2 e he
  simpa [hb] using h3
 ·have h1:=hall j (List.mem_range.2 hj)
  rw [Bool.and_eq_true,ho] at h1
  have h2:=h1.2
  rw [Bool.or_eq_true] at h2
  rcases h2 with h2|h2
  ·exact absurd (by simpa using h2) hne
  ·simp only [Option.map_some,Option.getD_some] at h2
   obtain ⟨i,hi,h3⟩:=Array.any_eq_true.1 h2
   rw [Bool.and_eq_true,beq_iff_eq] at h3
   exact ⟨_,Array.getElem_mem hi,h3.1,h3.2⟩

theorem ready_last {L:Nat} (hok:lastOk md ops L=true) {listed:Array Bool} (hsz:listed.size=ops.size) (hU:∃j,j < ops.size∧(j≠L∧listed.getD j true=false)) :
  (∀i,i∈Region.ready md ops listed→i≠L∧i∈Region.ready md ops (listed.setIfInBounds L true))∧Region.ready md ops listed≠[]:=by
 obtain ⟨hL,hE,hW⟩:=lastOk_parts hok
 have hLs:L < listed.size:=by omega
 refine ⟨fun i hi=>?_,fun hnil=>?_⟩
 ·rw [mem_ready] at hi
  obtain ⟨h1,h2,o,ho,h3⟩:=hi
  have hne:i≠L:=by
   intro e
   subst e
   obtain ⟨j,hj,hjne,hjl⟩:=hU
   obtain ⟨e,he,hb,rfl⟩:=hW j hj hjne o ho
   have:=h3 e he hb
   rw [gd_tf (by omega)] at hjl
   rw [hjl] at this
   cases this
  refine ⟨hne,mem_ready.2 ⟨h1,by rw [gd_set hLs,if_neg hne];exact h2,o,ho,fun e he hb=>?_⟩⟩
  rw [gd_set hLs]
  split
  ·rfl
  ·exact h3 e he hb
 ·obtain ⟨j,hj,⟨hjne,hjl⟩,hmin⟩:=least hU
  have:j∈Region.ready md ops listed:=by
   refine mem_ready.2 ⟨hj,hjl,ops[j],Array.getElem?_eq_getElem hj,fun e he hb=>?_⟩
   obtain ⟨h1,h2⟩:=hE j _ (Array.getElem?_eq_getElem hj) e he hb
   have h3:=hmin e.on h1
   have h4:listed.getD e.on true=true:=by
    cases hq:listed.getD e.on true with
    | true=>rfl
    | false=>exact absurd ⟨h2,hq⟩ h3
   rw [←gd_tf (by omega)]
   exact h4
  rw [hnil] at this
  cases this
theorem wpAny_full {L:Nat} (hok:lastOk md ops L=true) {listed:Array Bool} {a:Act} {w:World} (k:Nat) (hsz:listed.size=ops.size) (hnl:listed.getD L true=false) (hU:¬ ∃j,j < ops.size∧(j≠L∧listed.getD j true=false)) (h:postL P ops Q L .normal a w) :
  wpAny P md ops Q (k+1) listed a w:=by
 obtain ⟨hL,hE,hW⟩:=lastOk_parts hok
 have hLs:L < listed.size:=by omega
 have hlisted:∀j,j < ops.size→j≠L→listed.getD j true=true:=by
  intro j hj hne
  cases hq:listed.getD j true with
  | true=>rfl
  | false=>exact absurd ⟨j,hj,hne,hq⟩ hU
 have hmem:L∈Region.ready md ops listed:=by
  refine mem_ready.2 ⟨hL,hnl,ops[L],Array.getElem?_eq_getElem hL,fun e he hb=>?_⟩
  obtain ⟨h1,h2⟩:=hE L _ (Array.getElem?_eq_getElem hL) e he hb
  rw [←gd_tf (by omega)]
  exact hlisted _ (by omega) h2
 have hnil:Region.ready md ops (listed.setIfInBounds L true)=[]:=by
  refine List.eq_nil_iff_forall_not_mem.2 fun i hi=>?_
  obtain ⟨h1,h2,_⟩:=mem_ready.1 hi
  rw [gd_set hLs] at h2
  split at h2
  ·cases h2
  ·rename_i hne
   rw [hlisted i h1 hne] at h2
   cases h2
 refine ⟨fun hr=>?_,fun i hi=>?_⟩
 ·rw [hr] at hmem
  cases hmem
 ·obtain ⟨h1,h2,_⟩:=mem_ready.1 hi
  have hiL:i=L:=by
   rcases Nat.decEq i L with hne|he
   ·rw [hlisted i h1 hne] at h2
    cases h2
   ·exact he
  subst hiL
  refine wpOp_mono (fun a' w' hq=>?_) h
  cases k with
  | zero=>exact ⟨hnil,hq⟩
  | succ k=>exact ⟨fun _=>hq,fun i hi=>by rw [hnil] at hi;cases hi⟩

theorem wpAny_last {L:Nat} (hok:lastOk md ops L=true):∀(fuel:Nat) (listed:Array Bool) (a:Act) (w:World),listed.size=ops.size→listed.getD L true=false→wpAnyH P md ops (postL P ops Q L) S fuel (listed.setIfInBounds L true) a w→wpAny P md ops Q (fuel+1) listed a w:=by
 have hL:=(lastOk_parts hok).1
 intro fuel
 induction fuel with
 | zero =>
  intro listed a w hsz hnl H
  by_cases hU:∃j,j < ops.size∧(j≠L∧listed.getD j true=false)
  ·obtain ⟨h1,h2⟩:=ready_last hok hsz hU
   refine absurd (List.eq_nil_iff_forall_not_mem.2 fun i hi=>?_) h2
   have:=(h1 i hi).2
   rw [H.1] at this
   cases this
  ·exact wpAny_full hok 0 hsz hnl hU H.2
 | succ fuel ih =>
  intro listed a w hsz hnl H
  by_cases hU:∃j,j < ops.size∧(j≠L∧listed.getD j true=false)
  ·obtain ⟨hready,hsome⟩:=ready_last hok hsz hU
   refine ⟨fun h=>absurd h hsome,fun i hi=>?_⟩
   obtain ⟨hne,hi2⟩:=hready i hi
   refine wpOp_mono (fun a' w' hk=>?_) (wpOp_post postL_post (H.2 i hi2))
   refine ih _ a' w' (by simp [hsz]) (by rw [gd_set (by have:=(mem_ready.1 hi).1;omega),if_neg (fun e=>hne e.symm)];exact hnl) ?_
   rw [Array.setIfInBounds_comm _ _ hne]
   exact hk.2
  ·refine wpAny_full hok _ hsz hnl hU (H.1 ?_)
   refine List.eq_nil_iff_forall_not_mem.2 fun i hi=>?_
   obtain ⟨h1,h2,_⟩:=mem_ready.1 hi
   rw [gd_set (by omega)] at h2
   split at h2
   ·cases h2
   ·rename_i hne
    exact hU ⟨i,h1,hne,h2⟩

theorem wp_region_planL {id : Nat} {a : Act} {w : World} (S : World → Prop) (ps : List (Nat × Bool)) (L : Nat) {l : List (Oper × Bool)} (hm : P.follows .mixedOrders = true) (hlast : lastOk .any ops L = true) (hok : planOk .any ops ((Array.replicate ops.size false).setIfInBounds L true) ps = true) (hn : Region.noSelect ops = true) (hlen : decide (ps.length + 1 ≤ ops.size) = true)
  (hl:planOps ops ps=l) (hQ:∀c a k v w,Q (.panic c) (Act.put a (some k) v) w→Q (.panic c) a w) (hS:S w.drew) (h:S w.drew→wpPlan P ops (postL P ops Q L) S l a w.drew):(Code.region id ops true).wp P Q a w:=by
 subst hl
 have hlen':=of_decide_eq_true hlen
 refine wp_region_any hm ?_
 obtain ⟨k,hk⟩:∃k,ops.size=k+1:=⟨ops.size - 1,by omega⟩
 have hLs:=(lastOk_parts hlast).1
 have H:wpAny P .any ops Q (k+1) (Array.replicate ops.size false) a w.drew:=wpAny_last (S:=S) hlast k _ a w.drew (by simp) (by rw [Array.getD_eq_getD_getElem?,Array.getElem?_replicate,if_pos hLs];rfl) (wpAnyH_plan (S:=S) (Q:=postL P ops Q L) hn (panic_put (Q:=postL P ops Q L) fun c a k v w h=>hQ c a k v w h) ps k _ a w.drew hok (by omega) hS (h hS))
 rw [←hk] at H
 exact H
theorem postL_go {L:Nat} {o:Oper} {a:Act} {w:World} (ho:ops[L]?=some o) (hw:Region.wanted o (yielded ops a.tmps)=true) (h:Oper.wp P o a w (fun a' w'=>Q .normal a' w') Q):postL P ops Q L .normal a w:=by
 show wpOp P ops Q L _ a w
 unfold wpOp
 simp only [ho]
 rw [if_pos hw]
 exact .inl h
end
end Go.Proofs.YtpndfahgflgocaaGreatDoor

