import Derived.Test.YtggnbflbbfdohaaGreatRo18
import Derived.Test.YtggnbflbbfdohaaGreatRo19
import Derived.Test.YtggnbflbbfdohaaGreatRo4
import Derived.DeepKeys4

namespace Go.Proofs.YtggnbflbbfdohaaGreat
open Go.RowKit Go.Shelf Plain

def PosL (l:List (Int×Int)):Prop:=∀p∈l,1≤p.1∧i64 p.1∧i64 p.2
theorem low_i64 {ls:List (List NodV)} (hF:FewL ls) {la i:Int} (h:(lowAt ls la i).k≠0):i64 i:=by
 by_cases hh:1≤la∧la≤(ls.length:Int)
 ·obtain ⟨j,ns,-,hn,e⟩:=low_in (i:=i) hh
  rw [e] at h
  have h1:=(hF.2 ns (List.mem_of_getElem? hn)).1
  by_cases h2:1≤i∧i≤(ns.length:Int)
  ·unfold i64;omega
  ·rw [nodAt_out h2] at h
   exact absurd rfl h
 ·rw [low_out hh] at h
  exact absurd rfl h
theorem first_pos {ls:List (List NodV)} (hF:FewL ls) {p c:Int×Int} {x:List UInt8} (hp:1≤p.1∧i64 p.1∧i64 p.2) (h:firstL ls p x=some c):1≤c.1∧i64 c.1∧i64 c.2:=by
 have h0:=low_i64 hF (first_use h)
 unfold firstL at h
 rw [Option.map_eq_some_iff] at h
 obtain ⟨e,-,rfl⟩:=h
 exact ⟨hp.1,hp.2.1,h0⟩
theorem find_pos {ls : List (List NodV)} (hF : FewL ls) (x : List UInt8) : ∀ (l acc : List (Int × Int)), PosL l → PosL acc → PosL (findL ls x l acc).2
 | [],acc,_,ha=>by
  unfold findL
  split
  ·intro p hp;cases hp
  ·exact ha
 | p::r,acc,hl,ha=>by
  have hr:PosL r:=fun q hq=>hl q (List.mem_cons_of_mem _ hq)
  unfold findL
  cases hx:firstL ls p x with
  | none=>exact find_pos hF x r acc hr ha
  | some c =>
   have hc:=first_pos hF (hl p List.mem_cons_self) hx
   have ha2:PosL (acc++[c]):=fun q hq=>by
    rcases List.mem_append.1 hq with h|h
    ·exact ha q h
    ·rw [List.mem_singleton.1 h];exact hc
   simp only
   split
   ·split
    ·exact ha2
    ·exact find_pos hF x r _ hr ha2
   ·split
    ·exact ha
    ·split
     ·intro p hp;cases hp
     ·intro q hq;rw [List.mem_singleton.1 hq];exact hc
theorem roots_pos {ls:List (List NodV)} (hF:FewL ls):PosL (rootsL ls 0):=fun p hp=>by
 obtain ⟨h1,h2,h3⟩:=roots_all ls p hp
 have hl:=hF.1
 have h4:i64 p.1:=by unfold i64;omega
 refine ⟨h1,h4,?_⟩
 obtain ⟨y,hy,hyi⟩:=h3
 have h5:=isDir_in ((walk_ok (layL ls p.1) [1]).1 y hy)
 have h6:=(lay_few hF p.1).1
 rw [hyi] at h5
 unfold i64
 omega
theorem look_pos {ls : List (List NodV)} (hF : FewL ls) : ∀ (xs : List (List UInt8)) (l : List (Int × Int)), PosL l → PosL ((lookL ls l xs).getD [])
 | [],_,h=>h
 | x::r,l,h=>by
  unfold lookL
  split
  ·exact look_pos hF r _ (find_pos hF x l [] h (fun p hp=>by cases hp))
  ·intro p hp;cases hp
theorem ben_pos {ls:List (List NodV)} (hF:FewL ls) {l:List (Int×Int)} (x:List UInt8) (h:PosL l):PosL (benV ls l x):=by
 unfold benV
 split
 ·exact find_pos hF x l [] h (fun p hp=>by cases hp)
 ·intro p hp;cases hp
theorem part_pos {up:List NodV} {ls:List (List NodV)} (hF:FewL ls) {l:List (Int×Int)} (i:Int) (x:List UInt8) (h:PosL l):PosL (partV up ls l i x):=by
 have h0:PosL ([]:List (Int×Int)):=fun p hp=>by cases hp
 unfold partV redV
 split
 ·split
  ·exact h0
  ·split
   ·split
    ·split
     ·exact look_pos hF _ _ (roots_pos hF)
     ·exact ben_pos hF _ h
    ·exact h0
   ·exact ben_pos hF _ h
 ·exact h0
theorem root_pos (up:List NodV) {ls:List (List NodV)} (hF:FewL ls):PosL (rootV up ls).2:=by
 unfold rootV
 simp only
 split
 ·intro p hp;cases hp
 ·exact roots_pos hF
theorem way_pos {up:List NodV} {ls:List (List NodV)} (hF:FewL ls) {vs:List ViewV} {x:WayV} (h:∀v∈vs,PosL v.2):PosL (wayView up ls vs x).2:=by
 unfold wayView
 split
 ·exact root_pos up hF
 ·refine part_pos hF _ _ ?_
  cases hv:vs[x.up.toNat]? with
  | none=>intro p hp;cases hp
  | some v=>exact h v (List.mem_of_getElem? hv)
theorem tree_pos (up:List NodV) {ls:List (List NodV)} (hF:FewL ls) (l:List WayV):∀v∈treeV up ls l,PosL v.2:=by
 unfold treeV
 refine foldl_keep (P:=fun vs:List ViewV=>∀v∈vs,PosL v.2) _ _ (fun v hv=>by cases hv) (fun vs x _ h v hv=>?_)
 rcases List.mem_append.1 hv with h1|h1
 ·exact h v h1
 ·rw [List.mem_singleton.1 h1];exact way_pos hF h
def clmR (v:ViewV):Int×Int:=v.2.headD (0,0)
theorem clm_i64 {v:ViewV} (h:PosL v.2):i64 (clmR v).1∧i64 (clmR v).2:=by
 unfold clmR
 cases hl:v.2 with
 | nil=>exact ⟨by simp [i64],by simp [i64]⟩
 | cons p r=>exact (h p (by rw [hl];exact List.mem_cons_self)).2
theorem redq_one {s:List UInt8} (hb:redB s=true) (ha:redA s=false):redL s=[s]:=by
 unfold redB at hb
 unfold redA at ha
 unfold redL
 by_cases h1:24 < s.length
 ·rw [if_pos h1] at hb;cases hb
 ·rw [if_neg h1] at hb ha ⊢
  by_cases h2:headB s=true
  ·rw [if_pos h2] at hb ha;rw [hb] at ha;cases ha
  ·rw [if_neg h2] at hb ⊢
   rw [if_pos hb]
def loopR (own:List (List UInt8)) (r:List UInt8):Bool:=if redB r=true then (if redA r=true then beginsS (redL r) own else own.getLast?==some ((redL r).headD [])) else false
def clR (up:List NodV) (l:List WayV) (v:ViewV) (i:Nat) (y:WayV):Int:=if y.ino=1∨redB (nodAt up y.ino).att.r=false then 9 else if loopR (pathS l (i:Int)) (nodAt up y.ino).att.r=true then 10 else if clmR v=(0,0)∧opqD (nodAt up y.ino)=false then 11 else 0
def takR (up : List NodV) (ls : List (List NodV)) (l : List WayV) : Nat → List (Int × Int)
 | 0=>[]
 | k+1=>match l[k]?,(treeV up ls l)[k]? with
  | some y,some v=>if hasR (nodAt up y.ino)=true then takR up ls l k else takR up ls l k++[clmR v]
  | _,_=>takR up ls l k
theorem takR_succ {up:List NodV} {ls:List (List NodV)} {l:List WayV} {k:Nat} {y:WayV} {v:ViewV} (hy:l[k]?=some y) (hv:(treeV up ls l)[k]?=some v):takR up ls l (k+1)=if hasR (nodAt up y.ino)=true then takR up ls l k else takR up ls l k++[clmR v]:=by
 rw [takR,hy,hv]
abbrev StR:=List (Int×Int)×List Int
def endR (t:List (Int×Int)) (c:Int) (p:Int×Int):Int:=if c=0∧p≠(0,0)∧p∈t then 12 else c
def stepR (s:StR) (c:Int) (p:Int×Int):StR:=(if endR s.1 c p=0 then s.1++[p] else s.1,s.2++[endR s.1 c p])
def runR (up : List NodV) (ls : List (List NodV)) (l : List WayV) : Nat → StR
 | 0=>(takR up ls l l.length,[])
 | k+1=>match l[k]?,(treeV up ls l)[k]? with
  | some y,some v=>if hasR (nodAt up y.ino)=true then stepR (runR up ls l k) (clR up l v k y) (clmR v) else ((runR up ls l k).1,(runR up ls l k).2++[0])
  | _,_=>runR up ls l k
theorem runR_succ {up:List NodV} {ls:List (List NodV)} {l:List WayV} {k:Nat} {y:WayV} {v:ViewV} (hy:l[k]?=some y) (hv:(treeV up ls l)[k]?=some v):runR up ls l (k+1)=if hasR (nodAt up y.ino)=true then stepR (runR up ls l k) (clR up l v k y) (clmR v) else ((runR up ls l k).1,(runR up ls l k).2++[0]):=by
 rw [runR,hy,hv]
theorem runR_len {up : List NodV} {ls : List (List NodV)} {l : List WayV} : ∀ k, k ≤ l.length → (runR up ls l k).2.length = k
 | 0,_=>rfl
 | k+1,h=>by
  have h1:=runR_len (up:=up) (ls:=ls) (l:=l) k (by omega)
  have h2:(treeV up ls l).length=l.length:=tree_len up ls l
  rw [runR_succ (List.getElem?_eq_getElem (show k < l.length by omega)) (List.getElem?_eq_getElem (show k < (treeV up ls l).length by omega))]
  split
  ·simp [stepR,h1]
  ·simp [h1]
theorem runR_pre {up:List NodV} {ls:List (List NodV)} {l:List WayV} (k:Nat):(runR up ls l k).2 <+: (runR up ls l (k+1)).2:=by
 rw [runR.eq_def up ls l (k+1)]
 simp only
 split
 ·split
  ·exact List.prefix_append _ _
  ·exact List.prefix_append _ _
 ·exact List.prefix_refl _
def outR (up:List NodV) (ls:List (List NodV)):List Int:=(runR up ls (walkW up [1]).1 (walkW up [1]).1.length).2
theorem clR_in (up:List NodV) (l:List WayV) (v:ViewV) (i:Nat) (y:WayV):clR up l v i y=0∨9≤clR up l v i y∧clR up l v i y≤12:=by
 unfold clR
 split
 ·omega
 ·split
  ·omega
  ·split <;> omega
theorem endR_in {t:List (Int×Int)} {c:Int} {p:Int×Int} (h:c=0∨9≤c∧c≤12):endR t c p=0∨9≤endR t c p∧endR t c p≤12:=by
 unfold endR
 split
 ·omega
 ·exact h
theorem runR_in {up : List NodV} {ls : List (List NodV)} {l : List WayV} : ∀ k, ∀ c ∈ (runR up ls l k).2, c = 0 ∨ 9 ≤ c ∧ c ≤ 12
 | 0,c,h=>by cases h
 | k+1,c,h=>by
  have h1:=runR_in (up:=up) (ls:=ls) (l:=l) k
  unfold runR at h
  split at h
  ·split at h
   ·rcases List.mem_append.1 h with h|h
    ·exact h1 c h
    ·rw [List.mem_singleton.1 h];exact endR_in (clR_in _ _ _ _ _)
   ·rcases List.mem_append.1 h with h|h
    ·exact h1 c h
    ·rw [List.mem_singleton.1 h];exact .inl rfl
  ·exact h1 c h
def ofR (l:List WayV) (out:List Int) (i:Int):Int:=(((l.zip out).find? (fun z=>z.1.ino==i)).map (fun z=>z.2)).getD 9
theorem ofR_in {l:List WayV} {out:List Int} (h:∀c∈out,c=0∨9≤c∧c≤12) (i:Int):ofR l out i=0∨9≤ofR l out i∧ofR l out i≤12:=by
 unfold ofR
 cases hf:(l.zip out).find? (fun z=>z.1.ino==i) with
 | none=>exact .inr ⟨by decide,by decide⟩
 | some z=>exact h z.2 (List.of_mem_zip (List.mem_of_find?_eq_some hf)).2
theorem ofR_some {l:List WayV} {out:List Int} {j:Nat} {y:WayV} {c:Int} (hn:(l.map WayV.ino).Nodup) (hy:l[j]?=some y) (hc:out[j]?=some c):ofR l out y.ino=c:=by
 have hz:(l.zip out)[j]?=some (y,c):=by rw [List.getElem?_zip_eq_some];exact ⟨hy,hc⟩
 unfold ofR
 cases hf:(l.zip out).find? (fun z=>z.1.ino==y.ino) with
 | none=>exact absurd (List.find?_eq_none.1 hf _ (List.mem_of_getElem? hz)) (by simp)
 | some z =>
  have h1:z.1.ino=y.ino:=by simpa using List.find?_some hf
  obtain ⟨k,hk⟩:=List.mem_iff_getElem?.1 (List.mem_of_find?_eq_some hf)
  obtain ⟨h2,h3⟩:=List.getElem?_zip_eq_some.1 hk
  have:k=j:=nodup_get hn h2 hy h1
  subst this
  rw [hc] at h3
  exact (Option.some.inj h3).symm
theorem ofR_none {l:List WayV} {out:List Int} {i:Int} (h:∀y∈l,y.ino≠i):ofR l out i=9:=by
 unfold ofR
 rw [List.find?_eq_none.2 (fun z hz=>by simpa using h z.1 (List.of_mem_zip hz).1)]
 rfl
def oneR (up:List NodV) (rs:List Bool) (l:List WayV) (out:List Int) (i:Nat):List FinV:=match up[i]?,rs[i]? with
 | some x,some true=>if hasR x=true∧ofR l out ((i:Int)+1)≠0 then [⟨ofR l out ((i:Int)+1),0,(i:Int)+1,-1⟩] else []
 | _,_=>[]
def findR (up:List NodV) (rs:List Bool) (l:List WayV) (out:List Int) (n:Nat):List FinV:=(List.range n).flatMap (oneR up rs l out)
def allR (up:List NodV) (ls:List (List NodV)):List FinV:=findR up (reachL up (walkW up [1]).1) (walkW up [1]).1 (outR up ls) up.length
theorem findR_succ (up:List NodV) (rs:List Bool) (l:List WayV) (out:List Int) (n:Nat):findR up rs l out (n+1)=findR up rs l out n++oneR up rs l out n:=by
 unfold findR
 rw [List.range_succ,List.flatMap_append]
 simp
theorem oneR_is {up:List NodV} {rs:List Bool} {l:List WayV} {out:List Int} {i:Nat} {x:NodV} {r:Bool} (hx:up[i]?=some x) (hr:rs[i]?=some r):oneR up rs l out i=if r=true∧hasR x=true∧ofR l out ((i:Int)+1)≠0 then [⟨ofR l out ((i:Int)+1),0,(i:Int)+1,-1⟩] else []:=by
 unfold oneR
 rw [hx,hr]
 cases r <;> simp
theorem oneR_mem {up:List NodV} {rs:List Bool} {l:List WayV} {out:List Int} {i:Nat} {f:FinV} (h:f∈oneR up rs l out i):f=⟨ofR l out ((i:Int)+1),0,(i:Int)+1,-1⟩∧f.c≠0∧rs[i]?=some true∧∃x,up[i]?=some x∧hasR x=true:=by
 unfold oneR at h
 split at h
 ·rename_i x hx hr
  split at h
  ·rename_i hh
   have:=List.mem_singleton.1 h
   exact ⟨this,by rw [this];exact hh.2,hr,x,hx,hh.1⟩
  ·cases h
 ·cases h
theorem oneR_len (up:List NodV) (rs:List Bool) (l:List WayV) (out:List Int) (i:Nat):(oneR up rs l out i).length≤1:=by
 unfold oneR
 split
 ·split <;> simp
 ·simp
theorem findR_len (up : List NodV) (rs : List Bool) (l : List WayV) (out : List Int) : ∀ n, (findR up rs l out n).length ≤ n
 | 0=>by simp [findR]
 | n+1=>by
  have h1:=findR_len up rs l out n
  have h2:=oneR_len up rs l out n
  rw [findR_succ,List.length_append]
  omega
theorem findR_all {up : List NodV} {rs : List Bool} {l : List WayV} {out : List Int} (ho : ∀ c ∈ out, c = 0 ∨ 9 ≤ c ∧ c ≤ 12) : ∀ n (k : Nat) (f : FinV), (findR up rs l out n)[k]? = some f → (9 ≤ f.c ∧ f.c ≤ 12) ∧ f.i ≤ (n : Int) ∧ (∃ (j : Nat) (x : NodV), f.i = (j : Int) + 1 ∧ rs[j]? = some true ∧ up[j]? = some x ∧ hasR x = true) ∧ ∀ k' f', k' < k → (findR up rs l out n)[k']? = some f' → f'.i < f.i
 | 0,k,f,h=>by simp [findR] at h
 | n+1,k,f,h=>by
  rw [findR_succ] at h ⊢
  rcases Nat.lt_or_ge k (findR up rs l out n).length with hk|hk
  ·rw [List.getElem?_append_left hk] at h
   obtain ⟨h1,h2,h3,h4⟩:=findR_all ho n k f h
   refine ⟨h1,by omega,h3,fun k' f' hk' hf'=>h4 k' f' hk' ?_⟩
   rwa [List.getElem?_append_left (by omega)] at hf'
  ·rw [List.getElem?_append_right hk] at h
   have hm:=List.mem_of_getElem? h
   obtain ⟨e,hc,hr,x,hx,hR⟩:=oneR_mem hm
   have hlen:=oneR_len up rs l out n
   have hk2:=(List.getElem?_eq_some_iff.1 h).1
   have hin:=ofR_in (l:=l) ho ((n:Int)+1)
   subst e
   simp only at hc ⊢
   refine ⟨by omega,by omega,⟨n,x,rfl,hr,hx,hR⟩,fun k' f' hk' hf'=>?_⟩
   rw [List.getElem?_append_left (by omega)] at hf'
   have:=(findR_all ho n k' f' hf').2.1
   omega
theorem findR_not {up : List NodV} {rs : List Bool} {l : List WayV} {out : List Int} {j : Nat} {x : NodV} (hx : up[j]? = some x) (hR : hasR x = false) : ∀ n, ∀ f ∈ findR up rs l out n, f.i ≠ (j : Int) + 1
 | 0,f,h=>by simp [findR] at h
 | n+1,f,h=>by
  rw [findR_succ] at h
  rcases List.mem_append.1 h with h|h
  ·exact findR_not hx hR n f h
  ·obtain ⟨e,-,-,y,hy,hR2⟩:=oneR_mem h
   intro e2
   rw [e] at e2
   simp only at e2
   have:n=j:=by omega
   subst this
   rw [hx] at hy
   obtain rfl:=Option.some.inj hy
   rw [hR] at hR2
   cases hR2
end Go.Proofs.YtggnbflbbfdohaaGreat

namespace Go.Proofs.YtggnbflbbfdohaaGreat
open Go.RowKit Go.Shelf Plain Go.Maps

set_option maxRecDepth 100000 in
theorem plq_laid:laidOutB Tryz.prog=true:=by kernel_rfl
set_option maxRecDepth 100000 in
theorem plqKey:Keyed Tryz.prog 31:=Keyed.of_law (deep_law_laid plq_laid (m:=4) (by omega) (of_decide_eq_true (by kernel_rfl)) (by kernel_rfl) (by kernel_rfl))
set_option maxRecDepth 100000 in
theorem plq_size1:decide (1≤Tryz.prog.types.size)=true:=by kernel_rfl
theorem plqSize:∃k,Tryz.prog.types.size+1=k+1+1:=⟨Tryz.prog.types.size - 1,by have h:=of_decide_eq_true plq_size1;revert h;generalize Tryz.prog.types.size=z;intro h;omega⟩
set_option maxRecDepth 100000 in
theorem plq_cells:Tryz.prog.cellsOf 31=2:=by kernel_rfl
set_option maxRecDepth 100000 in
theorem plq_kt:Tryz.prog.keyType 31=true:=by kernel_rfl
set_option maxRecDepth 100000 in
theorem plqint_cells:Tryz.prog.cellsOf 3=1:=by kernel_rfl
set_option maxRecDepth 100000 in
set_option maxHeartbeats 800000 in
theorem plq_key {a b:Int} (ha:i64 a) (hb:i64 b):∃kl,keyOf Tryz.prog 31 (.agg #[.int .i64 a,.int .i64 b])=some kl:=by
 have h1:=i64_wf ha
 have h2:=i64_wf hb
 obtain ⟨k,hk⟩:=plqSize
 refine ⟨.string (keyBytes [.int .i64 a,.int .i64 b]),?_⟩
 unfold keyOf
 simp only [Tryz.underlying31]
 have hfm:Value.formed Tryz.prog 31 (Value.agg #[Value.int IntKind.i64 a,Value.int IntKind.i64 b])=true:=by
  simp only [Value.formed,Tryz.underlying31]
  rw [plq_cells]
  rfl
 rw [plq_kt,hfm,hk,show (Value.agg #[Value.int IntKind.i64 a,Value.int IntKind.i64 b]).cells.toList=[Value.int IntKind.i64 a,Value.int IntKind.i64 b] from rfl]
 have hk1:∀x:Int,(Lit.int IntKind.i64 x).wf=true→Tryz.prog.keyLits (k+1) 3 [Value.int IntKind.i64 x]=some [Lit.int IntKind.i64 x]:=by
  intro x hx
  unfold Program.keyLits
  simp only [Tryz.underlying3]
  rw [if_pos ⟨trivial,hx⟩]
 have hk2:Tryz.prog.keyLits (k+1+1) 31 [Value.int IntKind.i64 a,Value.int IntKind.i64 b]=some [Lit.int IntKind.i64 a,Lit.int IntKind.i64 b]:=by
  unfold Program.keyLits
  simp only [Tryz.underlying31]
  rw [if_pos ⟨by rw [plq_cells];rfl,by kernel_rfl⟩]
  simp only [List.mapM_cons,List.mapM_nil,plqint_cells,List.drop_zero,List.drop_succ_cons,List.take_succ_cons,List.take_zero,hk1 a h1,hk1 b h2]
  rfl
 rw [hk2]
 rfl
def SetQ (w:World) (b c:Nat) (f:Int×Int→Bool):Prop:=∃D:DataW Unit,w.ownsMap Tryz.prog 31 unitElem b c D∧∀x y kl,i64 x→i64 y→keyOf Tryz.prog 31 (.agg #[.int .i64 x,.int .i64 y])=some kl→Maps.has D kl=f (x,y)
section
variable {w w' : World} {b c : Nat} {f : Int × Int → Bool}
theorem SetQ.made (w:World):SetQ (w.alloc (.map #[] 0)) w.heap.size 0 (fun _=>false):=⟨.map [],World.ownsMap_made w _ _ _,fun _ _ _ _ _ _=>rfl⟩
theorem SetQ.lt (h:SetQ w b c f):b < w.heap.size:=by obtain ⟨D,h1,h2⟩:=h;exact h1.lt
theorem SetQ.kept {row:Option Nat} (h:SetQ w b c f) (hg:w.grownBy w' row) (hne:some b≠row):SetQ w' b c f:=by obtain ⟨D,h1,h2⟩:=h;exact ⟨D,h1.kept hg hne,h2⟩
theorem SetQ.on (h:SetQ w b c f) (hb:Below w.heap.size w w'):SetQ w' b c f:=h.kept (grown_below hb) (by simp)
theorem SetQ.eq {g:Int×Int→Bool} (h:SetQ w b c f) (e:f=g):SetQ w b c g:=e ▸ h
theorem SetQ.obj (h:SetQ w b c f):∃o:Obj,w.heap[b]?=some o∧(∀x,o≠.deferred x)∧o.isCells=false:=by
 obtain ⟨D,⟨es,clock,h1,_⟩,h2⟩:=h
 exact ⟨_,h1,(fun x e=>by cases e),rfl⟩
theorem SetQ.look (h:SetQ w b c f) {x y:Int} (hx:i64 x) (hy:i64 y):(Instr.lookup 119 (.map (some b)) (.agg #[.int .i64 x,.int .i64 y]) true).run Tryz.prog w=.ok (.tuple #[.agg #[],.bool (f (x,y))]) w:=by
 obtain ⟨D,h1,h2⟩:=h
 obtain ⟨kl,hkl⟩:=plq_key hx hy
 obtain ⟨v,ps,hrun,hv⟩:=h1.look_ok (t:=119) (e:=132) plqKey Tryz.underlying119 (unit_zero w) unitElem_mk hkl
 obtain ⟨rfl,-⟩:=unitElem_inv hv
 rw [hrun,h2 x y kl hx hy hkl]
theorem SetQ.put (h:SetQ w b c f) {x y:Int} (hx:i64 x) (hy:i64 y) (hc:c < maxLen):∃w',(Instr.mapUpdate 119 (.map (some b)) (.agg #[.int .i64 x,.int .i64 y]) (.agg #[])).run Tryz.prog w=.ok () w'∧SetQ w' b (c+1) (fun q=>f q||decide (q=(x,y)))∧w.grownBy w' (some b):=by
 obtain ⟨D,h1,h2⟩:=h
 obtain ⟨kl,hkl⟩:=plq_key hx hy
 obtain ⟨w',hrun,h3,h4⟩:=h1.update (t:=119) (e:=132) plqKey Tryz.underlying119 hc hkl unitElem_mk
 have hm:Maps.IsMap D:=h1.isMap
 have hk:WideAt.IsKeyLit kl:=plqKey.key hkl
 refine ⟨w',hrun,⟨_,h3,fun a d kl' ha hd hkl'=>?_⟩,h4⟩
 by_cases e:(a,d)=(x,y)
 ·cases e
  rw [hkl] at hkl'
  cases hkl'
  rw [has_put_same hm hk]
  simp
 ·have hne:kl'≠kl:=fun e'=>e (by
   subst e'
   have:=plqKey.inj hkl' hkl
   simpa using this)
  rw [has_put_other hne,h2 a d kl' ha hd hkl']
  simp [e]
theorem SetQ.drop (h:SetQ w b c f) {x y:Int} (hx:i64 x) (hy:i64 y) (ty:TypeId):∃w',(Builtin.delete_ #[119,31] ty #[.map (some b),.agg #[.int .i64 x,.int .i64 y]]).run Tryz.prog w=.ok (.tuple #[]) w'∧SetQ w' b c (fun q=>f q&&!decide (q=(x,y)))∧w.grownBy w' (some b):=by
 obtain ⟨D,h1,h2⟩:=h
 obtain ⟨kl,hkl⟩:=plq_key hx hy
 obtain ⟨w',hrun,h3,h4⟩:=h1.drop (t:=119) (e:=132) plqKey Tryz.underlying119 hkl ty
 refine ⟨w',hrun,⟨_,h3,fun a d kl' ha hd hkl'=>?_⟩,h4.grown⟩
 by_cases e:(a,d)=(x,y)
 ·cases e
  rw [hkl] at hkl'
  cases hkl'
  rw [has_del_same]
  simp
 ·have hne:kl'≠kl:=fun e'=>e (by
   subst e'
   have:=plqKey.inj hkl' hkl
   simpa using this)
  rw [has_del_other hne,h2 a d kl' ha hd hkl']
  simp [e]
end
def MapT (w:World) (b c:Nat) (f:Int→Option Int):Prop:=∃D:DataW Unit,w.ownsMap Tryz.prog 3 (plainElem Tryz.prog 3) b c D∧∀n,i64 n→Maps.has D (.int .i64 n)=(f n).isSome∧∀v,f n=some v→∀z,D.atKey (.int .i64 n) z=.lit (.int .i64 v)
set_option maxRecDepth 100000 in
theorem int_zeroT:∀w,(zeroValue 3).run Tryz.prog w=.ok (.int .i64 0) w:=fun w=>by kernel_rfl
section
variable {w w' : World} {b c : Nat} {f : Int → Option Int}
theorem MapT.made (w:World):MapT (w.alloc (.map #[] 0)) w.heap.size 0 (fun _=>none):=⟨.map [],World.ownsMap_made w _ _ _,fun _ _=>⟨rfl,fun v h=>by cases h⟩⟩
theorem MapT.lt (h:MapT w b c f):b < w.heap.size:=by obtain ⟨D,h1,h2⟩:=h;exact h1.lt
theorem MapT.kept {row:Option Nat} (h:MapT w b c f) (hg:w.grownBy w' row) (hne:some b≠row):MapT w' b c f:=by obtain ⟨D,h1,h2⟩:=h;exact ⟨D,h1.kept hg hne,h2⟩
theorem MapT.on (h:MapT w b c f) (hb:Below w.heap.size w w'):MapT w' b c f:=h.kept (grown_below hb) (by simp)
theorem MapT.eq {g:Int→Option Int} (h:MapT w b c f) (e:f=g):MapT w b c g:=e ▸ h
theorem MapT.obj (h:MapT w b c f):∃o:Obj,w.heap[b]?=some o∧(∀x,o≠.deferred x)∧o.isCells=false:=by
 obtain ⟨D,⟨es,clock,h1,_⟩,h2⟩:=h
 exact ⟨_,h1,(fun x e=>by cases e),rfl⟩
set_option maxRecDepth 100000 in
theorem MapT.look (h:MapT w b c f) {n v:Int} (hn:i64 n) (hv:f n=some v):(Instr.lookup 105 (.map (some b)) (.int .i64 n) false).run Tryz.prog w=.ok (.int .i64 v) w:=by
 obtain ⟨D,h1,h2⟩:=h
 obtain ⟨c',hrun,hat,-⟩:=h1.lookup_int (t:=105) (e:=3) intKey Tryz.underlying105 Tryz.underlying3 (int_zeroT w) (keyOf_int_mk Tryz.underlying3 (i64_wf hn))
 rw [(h2 n hn).2 v hv] at hat
 have e:v=c':=by simpa using hat
 rw [hrun,←e]
set_option maxRecDepth 100000 in
theorem MapT.look_ok (h:MapT w b c f) {n:Int} (hn:i64 n):∃v,(Instr.lookup 105 (.map (some b)) (.int .i64 n) true).run Tryz.prog w=.ok (.tuple #[.int .i64 v,.bool (f n).isSome]) w∧∀x,f n=some x→v=x:=by
 obtain ⟨D,h1,h2⟩:=h
 obtain ⟨v,ps,hrun,hv⟩:=h1.look_ok (t:=105) (e:=3) intKey Tryz.underlying105 (int_zeroT w) (plainElem_int Tryz.underlying3 (by decide)) (keyOf_int_mk Tryz.underlying3 (i64_wf hn))
 obtain ⟨c',rfl,hc,-⟩:=plainElem_int_inv Tryz.underlying3 hv
 refine ⟨c',by rw [hrun,(h2 n hn).1],fun x hx=>?_⟩
 have h3:=congrArg Prod.fst hc
 simp only at h3
 rw [(h2 n hn).2 x hx] at h3
 have e:x=c':=by simpa using h3
 exact e.symm
theorem MapT.put (h:MapT w b c f) {n v:Int} (hn:i64 n) (hv:i64 v) (hc:c < maxLen):∃w',(Instr.mapUpdate 105 (.map (some b)) (.int .i64 n) (.int .i64 v)).run Tryz.prog w=.ok () w'∧MapT w' b (c+1) (fun x=>if x=n then some v else f x)∧w.grownBy w' (some b):=by
 obtain ⟨D,h1,h2⟩:=h
 obtain ⟨w',hrun,h3,h4⟩:=h1.update (t:=105) (e:=3) intKey Tryz.underlying105 hc (keyOf_int_mk Tryz.underlying3 (i64_wf hn)) (plainElem_int Tryz.underlying3 (i64_wf hv))
 have hm:Maps.IsMap D:=h1.isMap
 have hk:WideAt.IsKeyLit (.int .i64 n):=intKey.key (keyOf_int_mk Tryz.underlying3 (i64_wf hn))
 refine ⟨w',hrun,⟨_,h3,fun x hx=>?_⟩,h4⟩
 by_cases e:x=n
 ·subst e
  refine ⟨by rw [has_put_same hm hk];simp,fun y hy z=>?_⟩
  have hy2:v=y:=by simpa using hy
  subst hy2
  exact atKey_put_same hm hk _ z
 ·have hne:Lit.int .i64 x≠Lit.int .i64 n:=by simpa using e
  refine ⟨by rw [has_put_other hne,(h2 x hx).1];simp [e],fun y hy z=>?_⟩
  have hy2:f x=some y:=by simpa [e] using hy
  rw [atKey_put_other hne]
  exact (h2 x hx).2 y hy2 z
end
end Go.Proofs.YtggnbflbbfdohaaGreat

namespace Go.Proofs.YtggnbflbbfdohaaGreat
open Go.RowKit Go.Shelf Plain Go.Maps

set_option maxRecDepth 100000 in
theorem p2nam_laid:laidOutB Tryz.prog=true:=by kernel_rfl
set_option maxRecDepth 100000 in
theorem p2namKey:Keyed Tryz.prog 99:=Keyed.of_law (deep_law_laid p2nam_laid (m:=4) (by omega) (of_decide_eq_true (by kernel_rfl)) (by kernel_rfl) (by kernel_rfl))
set_option maxRecDepth 100000 in
theorem p2nam_size1:decide (1≤Tryz.prog.types.size)=true:=by kernel_rfl
theorem p2namSize:∃k,Tryz.prog.types.size+1=k+1+1:=⟨Tryz.prog.types.size - 1,by have h:=of_decide_eq_true p2nam_size1;revert h;generalize Tryz.prog.types.size=z;intro h;omega⟩
set_option maxRecDepth 100000 in
theorem p2nam_cells:Tryz.prog.cellsOf 99=2:=by kernel_rfl
set_option maxRecDepth 100000 in
theorem p2nam_kt:Tryz.prog.keyType 99=true:=by kernel_rfl
set_option maxRecDepth 100000 in
theorem p2int_cells:Tryz.prog.cellsOf 3=1:=by kernel_rfl
set_option maxRecDepth 100000 in
set_option maxHeartbeats 800000 in
theorem p2nam_key {a b:Int} (ha:i64 a) (hb:i64 b):∃kl,keyOf Tryz.prog 99 (.agg #[.int .i64 a,.int .i64 b])=some kl:=by
 have h1:=i64_wf ha
 have h2:=i64_wf hb
 obtain ⟨k,hk⟩:=p2namSize
 refine ⟨.string (keyBytes [.int .i64 a,.int .i64 b]),?_⟩
 unfold keyOf
 simp only [Tryz.underlying99]
 have hfm:Value.formed Tryz.prog 99 (Value.agg #[Value.int IntKind.i64 a,Value.int IntKind.i64 b])=true:=by
  simp only [Value.formed,Tryz.underlying99]
  rw [p2nam_cells]
  rfl
 rw [p2nam_kt,hfm,hk,show (Value.agg #[Value.int IntKind.i64 a,Value.int IntKind.i64 b]).cells.toList=[Value.int IntKind.i64 a,Value.int IntKind.i64 b] from rfl]
 have hk1:∀x:Int,(Lit.int IntKind.i64 x).wf=true→Tryz.prog.keyLits (k+1) 3 [Value.int IntKind.i64 x]=some [Lit.int IntKind.i64 x]:=by
  intro x hx
  unfold Program.keyLits
  simp only [Tryz.underlying3]
  rw [if_pos ⟨trivial,hx⟩]
 have hk2:Tryz.prog.keyLits (k+1+1) 99 [Value.int IntKind.i64 a,Value.int IntKind.i64 b]=some [Lit.int IntKind.i64 a,Lit.int IntKind.i64 b]:=by
  unfold Program.keyLits
  simp only [Tryz.underlying99]
  rw [if_pos (by rw [p2nam_cells];rfl)]
  simp only [p2int_cells,show List.range 2=[0,1] from rfl,List.mapM_cons,List.mapM_nil,Nat.zero_mul,Nat.one_mul,List.drop_zero,List.drop_succ_cons,List.take_succ_cons,List.take_zero,hk1 a h1,hk1 b h2]
  rfl
 rw [hk2]
 rfl
def SetP (w:World) (b c:Nat) (f:Int×Int→Bool):Prop:=∃D:DataW Unit,w.ownsMap Tryz.prog 99 unitElem b c D∧∀x y kl,i64 x→i64 y→keyOf Tryz.prog 99 (.agg #[.int .i64 x,.int .i64 y])=some kl→Maps.has D kl=f (x,y)
section
variable {w w' : World} {b c : Nat} {f : Int × Int → Bool}
theorem SetP.made (w:World):SetP (w.alloc (.map #[] 0)) w.heap.size 0 (fun _=>false):=⟨.map [],World.ownsMap_made w _ _ _,fun _ _ _ _ _ _=>rfl⟩
theorem SetP.lt (h:SetP w b c f):b < w.heap.size:=by obtain ⟨D,h1,h2⟩:=h;exact h1.lt
theorem SetP.kept {row:Option Nat} (h:SetP w b c f) (hg:w.grownBy w' row) (hne:some b≠row):SetP w' b c f:=by obtain ⟨D,h1,h2⟩:=h;exact ⟨D,h1.kept hg hne,h2⟩
theorem SetP.on (h:SetP w b c f) (hb:Below w.heap.size w w'):SetP w' b c f:=h.kept (grown_below hb) (by simp)
theorem SetP.eq {g:Int×Int→Bool} (h:SetP w b c f) (e:f=g):SetP w b c g:=e ▸ h
theorem SetP.obj (h:SetP w b c f):∃o:Obj,w.heap[b]?=some o∧(∀x,o≠.deferred x)∧o.isCells=false:=by
 obtain ⟨D,⟨es,clock,h1,_⟩,h2⟩:=h
 exact ⟨_,h1,(fun x e=>by cases e),rfl⟩
theorem SetP.look (h:SetP w b c f) {x y:Int} (hx:i64 x) (hy:i64 y):(Instr.lookup 83 (.map (some b)) (.agg #[.int .i64 x,.int .i64 y]) true).run Tryz.prog w=.ok (.tuple #[.agg #[],.bool (f (x,y))]) w:=by
 obtain ⟨D,h1,h2⟩:=h
 obtain ⟨kl,hkl⟩:=p2nam_key hx hy
 obtain ⟨v,ps,hrun,hv⟩:=h1.look_ok (t:=83) (e:=132) p2namKey Tryz.underlying83 (unit_zero w) unitElem_mk hkl
 obtain ⟨rfl,-⟩:=unitElem_inv hv
 rw [hrun,h2 x y kl hx hy hkl]
theorem SetP.put (h:SetP w b c f) {x y:Int} (hx:i64 x) (hy:i64 y) (hc:c < maxLen):∃w',(Instr.mapUpdate 83 (.map (some b)) (.agg #[.int .i64 x,.int .i64 y]) (.agg #[])).run Tryz.prog w=.ok () w'∧SetP w' b (c+1) (fun q=>f q||decide (q=(x,y)))∧w.grownBy w' (some b):=by
 obtain ⟨D,h1,h2⟩:=h
 obtain ⟨kl,hkl⟩:=p2nam_key hx hy
 obtain ⟨w',hrun,h3,h4⟩:=h1.update (t:=83) (e:=132) p2namKey Tryz.underlying83 hc hkl unitElem_mk
 have hm:Maps.IsMap D:=h1.isMap
 have hk:WideAt.IsKeyLit kl:=p2namKey.key hkl
 refine ⟨w',hrun,⟨_,h3,fun a d kl' ha hd hkl'=>?_⟩,h4⟩
 by_cases e:(a,d)=(x,y)
 ·cases e
  rw [hkl] at hkl'
  cases hkl'
  rw [has_put_same hm hk]
  simp
 ·have hne:kl'≠kl:=fun e'=>e (by
   subst e'
   have:=p2namKey.inj hkl' hkl
   simpa using this)
  rw [has_put_other hne,h2 a d kl' ha hd hkl']
  simp [e]
end
end Go.Proofs.YtggnbflbbfdohaaGreat

