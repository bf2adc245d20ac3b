import Derived.Test.YtnhegahpfacdgaaGreatRt8
import Derived.Test.YtnhegahpfacdgaaGreatRt18
import Derived.BigQuiet
import Derived.Deep.QuietTactic
import Derived.Test.YtnhegahpfacdgaaGreatRt19
import Derived.Test.YtnhegahpfacdgaaGreatRt4
import Derived.DeepKeys4
import Derived.Test.YtnhegahpfacdgaaGreatRt9
import Derived.Lib.CutLaws
import Derived.IntWalk
import Derived.Test.YtnhegahpfacdgaaGreatRt1

namespace Go.Proofs.YtnhegahpfacdgaaGreat
open Go.RowKit Plain

def beginsS (a b:List (List UInt8)):Bool:=decide (a.length≤b.length)&&a==b.take a.length

set_option maxHeartbeats 800000 in
theorem RBegins_any {A B:Option Addr} {n m c d:Nat} {l k:List (List UInt8)} {W1 W2:Nat} (w:World) (ha:Rd st w W1 A n l) (hb:Rd st w W2 B m k) (hn:n≤140737488355328) :
  Calls Tryz.prog 31 #[.slice A n c,.slice B m d] w fun e w'=>e=.returned (.bool (beginsS l k))∧Below w.heap.size w w':=by
 obtain ⟨r,hr⟩:∃r,beginsS l k=r:=⟨_,rfl⟩
 rw [hr]
 by_cases hnm:m < n
 ·have hre:r=false:=by
   rw [←hr]
   unfold beginsS
   rw [ha.len,hb.len]
   have:decide (n≤m)=false:=by simp;omega
   rw [this]
   rfl
  have HRE:=hide hre
  have hd:decide ((m:Int) < (n:Int))=true:=by simp;omega
  clear ha hb hr hre
  go_enter Tryz.func31,Tryz.ntmps31
  go_wp2
  go_ret
  rw [HRE.out]
  exact ⟨rfl,below_self w⟩
 have hrb:(l==k.take n)=r:=by
  rw [←hr]
  unfold beginsS
  rw [ha.len,hb.len]
  have:decide (n≤m)=true:=by simp;omega
  rw [this]
  rfl
 have HR:=hide hrb
 have HA:=hide ha
 have HB:=hide hb
 have hd:¬m < n:=hnm
 clear hr ha hb hrb hnm
 go_enter Tryz.func31,Tryz.ntmps31
 go_wp2
 go_loopw [5] (fun i wr=>∃j q:Nat,j≤n∧i=.int .i64 j∧l.take j=k.take j∧wr=w.drewN q) (fun i _=>n - (intOf i).toNat)
 case atStart=>exact ⟨0,0,by omega,rfl,rfl,rfl⟩
 case round =>
  obtain ⟨j,q,hj,rfl,htake,rfl⟩:=hrel
  have HT:=hide htake
  clear htake
  by_cases hlt:j < n
  ·obtain ⟨b1,o1,rfl,_,hc1⟩:=HA.out.2 (by omega)
   obtain ⟨b2,o2,rfl,_,hc2⟩:=HB.out.2 (by omega)
   have hl1:j < l.length:=by rw [HA.out.len];exact hlt
   have hl2:j < k.length:=by rw [HB.out.len];omega
   have hx1:=hc1 j l[j] (List.getElem?_eq_getElem hl1)
   have hx2:=hc2 j k[j] (List.getElem?_eq_getElem hl2)
   clear hc1 hc2
   obtain ⟨x,hx⟩:∃x,x=l[j]:=⟨_,rfl⟩
   obtain ⟨y,hy⟩:∃y,y=k[j]:=⟨_,rfl⟩
   rw [←hx] at hx1
   rw [←hy] at hx2
   unfold st at hx1 hx2
   have hjm:j < m:=by omega
   by_cases hxy:x=y
   ·have ht2:l.take (j+1)=k.take (j+1):=by
     rw [List.take_succ_eq_append_getElem hl1,List.take_succ_eq_append_getElem hl2,HT.out,←hx,←hy,hxy]
    have HT2:=hide ht2
    have hne:(x==y)=true:=by simp [hxy]
    clear hx hy ht2 hxy hl1 hl2
    go_wp2
    go_quiet (fail)
    go_wp2
    go_roundw
    case rel=>exact ⟨j+1,_,by omega,by go_num,HT2.out,rfl⟩
    case measure=>simp [intOf];omega
   ·have hre:r=false:=by
     rw [←HR.out]
     simp only [beq_eq_false_iff_ne,ne_eq]
     intro e
     apply hxy
     rw [hx,hy]
     have e2:l[j]?=k[j]?:=by rw [e,List.getElem?_take_of_lt hlt]
     rw [List.getElem?_eq_getElem hl1,List.getElem?_eq_getElem hl2] at e2
     exact Option.some.inj e2
    have hne:(x==y)=false:=by simp [hxy]
    have HRE:=hide hre
    clear hx hy hre hxy hl1 hl2
    go_wp2
    go_quiet (fail)
    go_wp2
    go_ret
    rw [HRE.out]
    exact ⟨rfl,below_drewN (below_drewN (below_self w) _) _⟩
  ·obtain rfl:j=n:=by omega
   have hre:r=true:=by
    rw [←HR.out]
    have e:=HT.out
    rw [List.take_of_length_le (by rw [HA.out.len];exact Nat.le_refl _)] at e
    simp [e]
   have HRE:=hide hre
   clear hre
   go_wp2
   go_ret
   rw [HRE.out]
   exact ⟨rfl,below_drewN (below_self w) _⟩
end Go.Proofs.YtnhegahpfacdgaaGreat

namespace Go.Proofs.YtnhegahpfacdgaaGreat
open Go.RowKit Go.Shelf Plain

def PosL (l:List (Int×Int)):Prop:=∀p∈l,1≤p.1∧i64 p.1∧i64 p.2
theorem low_i64 {ls:List (List NodV)} (hF:FewL ls) {la i:Int} (h:(lowAt ls la i).k≠0):i64 i:=by
 by_cases hh:1≤la∧la≤(ls.length:Int)
 ·obtain ⟨j,ns,-,hn,e⟩:=low_in (i:=i) hh
  rw [e] at h
  have h1:=(hF.2 ns (List.mem_of_getElem? hn)).1
  by_cases h2:1≤i∧i≤(ns.length:Int)
  ·unfold i64;omega
  ·rw [nodAt_out h2] at h
   exact absurd rfl h
 ·rw [low_out hh] at h
  exact absurd rfl h
theorem first_pos {ls:List (List NodV)} (hF:FewL ls) {p c:Int×Int} {x:List UInt8} (hp:1≤p.1∧i64 p.1∧i64 p.2) (h:firstL ls p x=some c):1≤c.1∧i64 c.1∧i64 c.2:=by
 have h0:=low_i64 hF (first_use h)
 unfold firstL at h
 rw [Option.map_eq_some_iff] at h
 obtain ⟨e,-,rfl⟩:=h
 exact ⟨hp.1,hp.2.1,h0⟩
theorem find_pos {ls : List (List NodV)} (hF : FewL ls) (x : List UInt8) : ∀ (l acc : List (Int × Int)), PosL l → PosL acc → PosL (findL ls x l acc).2
 | [],acc,_,ha=>by
  unfold findL
  split
  ·intro p hp;cases hp
  ·exact ha
 | p::r,acc,hl,ha=>by
  have hr:PosL r:=fun q hq=>hl q (List.mem_cons_of_mem _ hq)
  unfold findL
  cases hx:firstL ls p x with
  | none=>exact find_pos hF x r acc hr ha
  | some c =>
   have hc:=first_pos hF (hl p List.mem_cons_self) hx
   have ha2:PosL (acc++[c]):=fun q hq=>by
    rcases List.mem_append.1 hq with h|h
    ·exact ha q h
    ·rw [List.mem_singleton.1 h];exact hc
   simp only
   split
   ·split
    ·exact ha2
    ·exact find_pos hF x r _ hr ha2
   ·split
    ·exact ha
    ·split
     ·intro p hp;cases hp
     ·intro q hq;rw [List.mem_singleton.1 hq];exact hc
theorem roots_pos {ls:List (List NodV)} (hF:FewL ls):PosL (rootsL ls 0):=fun p hp=>by
 obtain ⟨h1,h2,h3⟩:=roots_all ls p hp
 have hl:=hF.1
 have h4:i64 p.1:=by unfold i64;omega
 refine ⟨h1,h4,?_⟩
 obtain ⟨y,hy,hyi⟩:=h3
 have h5:=isDir_in ((walk_ok (layL ls p.1) [1]).1 y hy)
 have h6:=(lay_few hF p.1).1
 rw [hyi] at h5
 unfold i64
 omega
theorem look_pos {ls : List (List NodV)} (hF : FewL ls) : ∀ (xs : List (List UInt8)) (l : List (Int × Int)), PosL l → PosL ((lookL ls l xs).getD [])
 | [],_,h=>h
 | x::r,l,h=>by
  unfold lookL
  split
  ·exact look_pos hF r _ (find_pos hF x l [] h (fun p hp=>by cases hp))
  ·intro p hp;cases hp
theorem ben_pos {ls:List (List NodV)} (hF:FewL ls) {l:List (Int×Int)} (x:List UInt8) (h:PosL l):PosL (benV ls l x):=by
 unfold benV
 split
 ·exact find_pos hF x l [] h (fun p hp=>by cases hp)
 ·intro p hp;cases hp
theorem part_pos {up:List NodV} {ls:List (List NodV)} (hF:FewL ls) {l:List (Int×Int)} (i:Int) (x:List UInt8) (h:PosL l):PosL (partV up ls l i x):=by
 have h0:PosL ([]:List (Int×Int)):=fun p hp=>by cases hp
 unfold partV redV
 split
 ·split
  ·exact h0
  ·split
   ·split
    ·split
     ·exact look_pos hF _ _ (roots_pos hF)
     ·exact ben_pos hF _ h
    ·exact h0
   ·exact ben_pos hF _ h
 ·exact h0
theorem root_pos (up:List NodV) {ls:List (List NodV)} (hF:FewL ls):PosL (rootV up ls).2:=by
 unfold rootV
 simp only
 split
 ·intro p hp;cases hp
 ·exact roots_pos hF
theorem way_pos {up:List NodV} {ls:List (List NodV)} (hF:FewL ls) {vs:List ViewV} {x:WayV} (h:∀v∈vs,PosL v.2):PosL (wayView up ls vs x).2:=by
 unfold wayView
 split
 ·exact root_pos up hF
 ·refine part_pos hF _ _ ?_
  cases hv:vs[x.up.toNat]? with
  | none=>intro p hp;cases hp
  | some v=>exact h v (List.mem_of_getElem? hv)
theorem tree_pos (up:List NodV) {ls:List (List NodV)} (hF:FewL ls) (l:List WayV):∀v∈treeV up ls l,PosL v.2:=by
 unfold treeV
 refine foldl_keep (P:=fun vs:List ViewV=>∀v∈vs,PosL v.2) _ _ (fun v hv=>by cases hv) (fun vs x _ h v hv=>?_)
 rcases List.mem_append.1 hv with h1|h1
 ·exact h v h1
 ·rw [List.mem_singleton.1 h1];exact way_pos hF h
def clmR (v:ViewV):Int×Int:=v.2.headD (0,0)
theorem clm_zero {v:ViewV} (h:PosL v.2):clmR v=(0,0)↔v.2=[]:=by
 unfold clmR
 cases hl:v.2 with
 | nil=>simp
 | cons p r =>
  have h1:=h p (by rw [hl];exact List.mem_cons_self)
  simp only [List.headD_cons,reduceCtorEq,iff_false]
  intro e
  rw [e] at h1
  have:=h1.1
  simp at this
theorem clm_i64 {v:ViewV} (h:PosL v.2):i64 (clmR v).1∧i64 (clmR v).2:=by
 unfold clmR
 cases hl:v.2 with
 | nil=>exact ⟨by simp [i64],by simp [i64]⟩
 | cons p r=>exact (h p (by rw [hl];exact List.mem_cons_self)).2
theorem redq_one {s:List UInt8} (hb:redB s=true) (ha:redA s=false):redL s=[s]:=by
 unfold redB at hb
 unfold redA at ha
 unfold redL
 by_cases h1:24 < s.length
 ·rw [if_pos h1] at hb;cases hb
 ·rw [if_neg h1] at hb ha ⊢
  by_cases h2:headB s=true
  ·rw [if_pos h2] at hb ha;rw [hb] at ha;cases ha
  ·rw [if_neg h2] at hb ⊢
   rw [if_pos hb]
def loopR (own:List (List UInt8)) (r:List UInt8):Bool:=if redB r=true then (if redA r=true then beginsS (redL r) own else own.getLast?==some ((redL r).headD [])) else false
def clR (up:List NodV) (l:List WayV) (v:ViewV) (i:Nat) (y:WayV):Int:=if y.ino=1∨redB (nodAt up y.ino).att.r=false then 9 else if loopR (pathS l (i:Int)) (nodAt up y.ino).att.r=true then 10 else if clmR v=(0,0)∧opqD (nodAt up y.ino)=false then 11 else 0
def takR (up : List NodV) (ls : List (List NodV)) (l : List WayV) : Nat → List (Int × Int)
 | 0=>[]
 | k+1=>match l[k]?,(treeV up ls l)[k]? with
  | some y,some v=>if hasR (nodAt up y.ino)=true then takR up ls l k else takR up ls l k++[clmR v]
  | _,_=>takR up ls l k
theorem takR_succ {up:List NodV} {ls:List (List NodV)} {l:List WayV} {k:Nat} {y:WayV} {v:ViewV} (hy:l[k]?=some y) (hv:(treeV up ls l)[k]?=some v):takR up ls l (k+1)=if hasR (nodAt up y.ino)=true then takR up ls l k else takR up ls l k++[clmR v]:=by
 rw [takR,hy,hv]
abbrev StR:=List (Int×Int)×List Int
def endR (t:List (Int×Int)) (c:Int) (p:Int×Int):Int:=if c=0∧p≠(0,0)∧p∈t then 12 else c
def stepR (s:StR) (c:Int) (p:Int×Int):StR:=(if endR s.1 c p=0 then s.1++[p] else s.1,s.2++[endR s.1 c p])
def runR (up : List NodV) (ls : List (List NodV)) (l : List WayV) : Nat → StR
 | 0=>(takR up ls l l.length,[])
 | k+1=>match l[k]?,(treeV up ls l)[k]? with
  | some y,some v=>if hasR (nodAt up y.ino)=true then stepR (runR up ls l k) (clR up l v k y) (clmR v) else ((runR up ls l k).1,(runR up ls l k).2++[0])
  | _,_=>runR up ls l k
theorem runR_succ {up:List NodV} {ls:List (List NodV)} {l:List WayV} {k:Nat} {y:WayV} {v:ViewV} (hy:l[k]?=some y) (hv:(treeV up ls l)[k]?=some v):runR up ls l (k+1)=if hasR (nodAt up y.ino)=true then stepR (runR up ls l k) (clR up l v k y) (clmR v) else ((runR up ls l k).1,(runR up ls l k).2++[0]):=by
 rw [runR,hy,hv]
theorem runR_len {up : List NodV} {ls : List (List NodV)} {l : List WayV} : ∀ k, k ≤ l.length → (runR up ls l k).2.length = k
 | 0,_=>rfl
 | k+1,h=>by
  have h1:=runR_len (up:=up) (ls:=ls) (l:=l) k (by omega)
  have h2:(treeV up ls l).length=l.length:=tree_len up ls l
  rw [runR_succ (List.getElem?_eq_getElem (show k < l.length by omega)) (List.getElem?_eq_getElem (show k < (treeV up ls l).length by omega))]
  split
  ·simp [stepR,h1]
  ·simp [h1]
theorem takR_len {up : List NodV} {ls : List (List NodV)} {l : List WayV} : ∀ k, (takR up ls l k).length ≤ k
 | 0=>Nat.le_refl _
 | k+1=>by
  have h1:=takR_len (up:=up) (ls:=ls) (l:=l) k
  unfold takR
  split
  ·split
   ·omega
   ·rw [List.length_append,List.length_singleton];omega
  ·omega
theorem runR_pre {up:List NodV} {ls:List (List NodV)} {l:List WayV} (k:Nat):(runR up ls l k).2 <+: (runR up ls l (k+1)).2:=by
 rw [runR.eq_def up ls l (k+1)]
 simp only
 split
 ·split
  ·exact List.prefix_append _ _
  ·exact List.prefix_append _ _
 ·exact List.prefix_refl _
def outR (up:List NodV) (ls:List (List NodV)):List Int:=(runR up ls (walkW up [1]).1 (walkW up [1]).1.length).2
theorem clR_in (up:List NodV) (l:List WayV) (v:ViewV) (i:Nat) (y:WayV):clR up l v i y=0∨9≤clR up l v i y∧clR up l v i y≤12:=by
 unfold clR
 split
 ·omega
 ·split
  ·omega
  ·split <;> omega
theorem endR_in {t:List (Int×Int)} {c:Int} {p:Int×Int} (h:c=0∨9≤c∧c≤12):endR t c p=0∨9≤endR t c p∧endR t c p≤12:=by
 unfold endR
 split
 ·omega
 ·exact h
theorem runR_in {up : List NodV} {ls : List (List NodV)} {l : List WayV} : ∀ k, ∀ c ∈ (runR up ls l k).2, c = 0 ∨ 9 ≤ c ∧ c ≤ 12
 | 0,c,h=>by cases h
 | k+1,c,h=>by
  have h1:=runR_in (up:=up) (ls:=ls) (l:=l) k
  unfold runR at h
  split at h
  ·split at h
   ·rcases List.mem_append.1 h with h|h
    ·exact h1 c h
    ·rw [List.mem_singleton.1 h];exact endR_in (clR_in _ _ _ _ _)
   ·rcases List.mem_append.1 h with h|h
    ·exact h1 c h
    ·rw [List.mem_singleton.1 h];exact .inl rfl
  ·exact h1 c h
def ofR (l:List WayV) (out:List Int) (i:Int):Int:=(((l.zip out).find? (fun z=>z.1.ino==i)).map (fun z=>z.2)).getD 9
theorem ofR_in {l:List WayV} {out:List Int} (h:∀c∈out,c=0∨9≤c∧c≤12) (i:Int):ofR l out i=0∨9≤ofR l out i∧ofR l out i≤12:=by
 unfold ofR
 cases hf:(l.zip out).find? (fun z=>z.1.ino==i) with
 | none=>exact .inr ⟨by decide,by decide⟩
 | some z=>exact h z.2 (List.of_mem_zip (List.mem_of_find?_eq_some hf)).2
theorem ofR_some {l:List WayV} {out:List Int} {j:Nat} {y:WayV} {c:Int} (hn:(l.map WayV.ino).Nodup) (hy:l[j]?=some y) (hc:out[j]?=some c):ofR l out y.ino=c:=by
 have hz:(l.zip out)[j]?=some (y,c):=by rw [List.getElem?_zip_eq_some];exact ⟨hy,hc⟩
 unfold ofR
 cases hf:(l.zip out).find? (fun z=>z.1.ino==y.ino) with
 | none=>exact absurd (List.find?_eq_none.1 hf _ (List.mem_of_getElem? hz)) (by simp)
 | some z =>
  have h1:z.1.ino=y.ino:=by simpa using List.find?_some hf
  obtain ⟨k,hk⟩:=List.mem_iff_getElem?.1 (List.mem_of_find?_eq_some hf)
  obtain ⟨h2,h3⟩:=List.getElem?_zip_eq_some.1 hk
  have:k=j:=nodup_get hn h2 hy h1
  subst this
  rw [hc] at h3
  exact (Option.some.inj h3).symm
theorem ofR_none {l:List WayV} {out:List Int} {i:Int} (h:∀y∈l,y.ino≠i):ofR l out i=9:=by
 unfold ofR
 rw [List.find?_eq_none.2 (fun z hz=>by simpa using h z.1 (List.of_mem_zip hz).1)]
 rfl
def oneR (up:List NodV) (rs:List Bool) (l:List WayV) (out:List Int) (i:Nat):List FinV:=match up[i]?,rs[i]? with
 | some x,some true=>if hasR x=true∧ofR l out ((i:Int)+1)≠0 then [⟨ofR l out ((i:Int)+1),0,(i:Int)+1,-1⟩] else []
 | _,_=>[]
def findR (up:List NodV) (rs:List Bool) (l:List WayV) (out:List Int) (n:Nat):List FinV:=(List.range n).flatMap (oneR up rs l out)
def allR (up:List NodV) (ls:List (List NodV)):List FinV:=findR up (reachL up (walkW up [1]).1) (walkW up [1]).1 (outR up ls) up.length
theorem findR_succ (up:List NodV) (rs:List Bool) (l:List WayV) (out:List Int) (n:Nat):findR up rs l out (n+1)=findR up rs l out n++oneR up rs l out n:=by
 unfold findR
 rw [List.range_succ,List.flatMap_append]
 simp
theorem oneR_is {up:List NodV} {rs:List Bool} {l:List WayV} {out:List Int} {i:Nat} {x:NodV} {r:Bool} (hx:up[i]?=some x) (hr:rs[i]?=some r):oneR up rs l out i=if r=true∧hasR x=true∧ofR l out ((i:Int)+1)≠0 then [⟨ofR l out ((i:Int)+1),0,(i:Int)+1,-1⟩] else []:=by
 unfold oneR
 rw [hx,hr]
 cases r <;> simp
theorem oneR_len (up:List NodV) (rs:List Bool) (l:List WayV) (out:List Int) (i:Nat):(oneR up rs l out i).length≤1:=by
 unfold oneR
 split
 ·split <;> simp
 ·simp
theorem findR_len (up : List NodV) (rs : List Bool) (l : List WayV) (out : List Int) : ∀ n, (findR up rs l out n).length ≤ n
 | 0=>by simp [findR]
 | n+1=>by
  have h1:=findR_len up rs l out n
  have h2:=oneR_len up rs l out n
  rw [findR_succ,List.length_append]
  omega
end Go.Proofs.YtnhegahpfacdgaaGreat

namespace Go.Proofs.YtnhegahpfacdgaaGreat
open Go.RowKit Go.Shelf Plain Go.Maps

set_option maxRecDepth 100000 in
theorem plq_laid:laidOutB Tryz.prog=true:=by kernel_rfl
set_option maxRecDepth 100000 in
theorem plqKey:Keyed Tryz.prog 41:=Keyed.of_law (deep_law_laid plq_laid (m:=4) (by omega) (of_decide_eq_true (by kernel_rfl)) (by kernel_rfl) (by kernel_rfl))
set_option maxRecDepth 100000 in
theorem plq_size1:decide (1≤Tryz.prog.types.size)=true:=by kernel_rfl
theorem plqSize:∃k,Tryz.prog.types.size+1=k+1+1:=⟨Tryz.prog.types.size - 1,by have h:=of_decide_eq_true plq_size1;revert h;generalize Tryz.prog.types.size=z;intro h;omega⟩
set_option maxRecDepth 100000 in
theorem plq_cells:Tryz.prog.cellsOf 41=2:=by kernel_rfl
set_option maxRecDepth 100000 in
theorem plq_kt:Tryz.prog.keyType 41=true:=by kernel_rfl
set_option maxRecDepth 100000 in
theorem plqint_cells:Tryz.prog.cellsOf 3=1:=by kernel_rfl
set_option maxRecDepth 100000 in
set_option maxHeartbeats 800000 in
theorem plq_key {a b:Int} (ha:i64 a) (hb:i64 b):∃kl,keyOf Tryz.prog 41 (.agg #[.int .i64 a,.int .i64 b])=some kl:=by
 have h1:=i64_wf ha
 have h2:=i64_wf hb
 obtain ⟨k,hk⟩:=plqSize
 refine ⟨.string (keyBytes [.int .i64 a,.int .i64 b]),?_⟩
 unfold keyOf
 simp only [Tryz.underlying41]
 have hfm:Value.formed Tryz.prog 41 (Value.agg #[Value.int IntKind.i64 a,Value.int IntKind.i64 b])=true:=by
  simp only [Value.formed,Tryz.underlying41]
  rw [plq_cells]
  rfl
 rw [plq_kt,hfm,hk,show (Value.agg #[Value.int IntKind.i64 a,Value.int IntKind.i64 b]).cells.toList=[Value.int IntKind.i64 a,Value.int IntKind.i64 b] from rfl]
 have hk1:∀x:Int,(Lit.int IntKind.i64 x).wf=true→Tryz.prog.keyLits (k+1) 3 [Value.int IntKind.i64 x]=some [Lit.int IntKind.i64 x]:=by
  intro x hx
  unfold Program.keyLits
  simp only [Tryz.underlying3]
  rw [if_pos ⟨trivial,hx⟩]
 have hk2:Tryz.prog.keyLits (k+1+1) 41 [Value.int IntKind.i64 a,Value.int IntKind.i64 b]=some [Lit.int IntKind.i64 a,Lit.int IntKind.i64 b]:=by
  unfold Program.keyLits
  simp only [Tryz.underlying41]
  rw [if_pos ⟨by rw [plq_cells];rfl,by kernel_rfl⟩]
  simp only [List.mapM_cons,List.mapM_nil,plqint_cells,List.drop_zero,List.drop_succ_cons,List.take_succ_cons,List.take_zero,hk1 a h1,hk1 b h2]
  rfl
 rw [hk2]
 rfl
def SetQ (w:World) (b c:Nat) (f:Int×Int→Bool):Prop:=∃D:DataW Unit,w.ownsMap Tryz.prog 41 unitElem b c D∧∀x y kl,i64 x→i64 y→keyOf Tryz.prog 41 (.agg #[.int .i64 x,.int .i64 y])=some kl→Maps.has D kl=f (x,y)
section
variable {w w' : World} {b c : Nat} {f : Int × Int → Bool}
theorem SetQ.made (w:World):SetQ (w.alloc (.map #[] 0)) w.heap.size 0 (fun _=>false):=⟨.map [],World.ownsMap_made w _ _ _,fun _ _ _ _ _ _=>rfl⟩
theorem SetQ.lt (h:SetQ w b c f):b < w.heap.size:=by obtain ⟨D,h1,h2⟩:=h;exact h1.lt
theorem SetQ.kept {row:Option Nat} (h:SetQ w b c f) (hg:w.grownBy w' row) (hne:some b≠row):SetQ w' b c f:=by obtain ⟨D,h1,h2⟩:=h;exact ⟨D,h1.kept hg hne,h2⟩
theorem SetQ.on (h:SetQ w b c f) (hb:Below w.heap.size w w'):SetQ w' b c f:=h.kept (grown_below hb) (by simp)
theorem SetQ.eq {g:Int×Int→Bool} (h:SetQ w b c f) (e:f=g):SetQ w b c g:=e ▸ h
theorem SetQ.obj (h:SetQ w b c f):∃o:Obj,w.heap[b]?=some o∧(∀x,o≠.deferred x)∧o.isCells=false:=by
 obtain ⟨D,⟨es,clock,h1,_⟩,h2⟩:=h
 exact ⟨_,h1,(fun x e=>by cases e),rfl⟩
theorem SetQ.look (h:SetQ w b c f) {x y:Int} (hx:i64 x) (hy:i64 y):(Instr.lookup 76 (.map (some b)) (.agg #[.int .i64 x,.int .i64 y]) true).run Tryz.prog w=.ok (.tuple #[.agg #[],.bool (f (x,y))]) w:=by
 obtain ⟨D,h1,h2⟩:=h
 obtain ⟨kl,hkl⟩:=plq_key hx hy
 obtain ⟨v,ps,hrun,hv⟩:=h1.look_ok (t:=76) (e:=114) plqKey Tryz.underlying76 (unit_zero w) unitElem_mk hkl
 obtain ⟨rfl,-⟩:=unitElem_inv hv
 rw [hrun,h2 x y kl hx hy hkl]
theorem SetQ.put (h:SetQ w b c f) {x y:Int} (hx:i64 x) (hy:i64 y) (hc:c < maxLen):∃w',(Instr.mapUpdate 76 (.map (some b)) (.agg #[.int .i64 x,.int .i64 y]) (.agg #[])).run Tryz.prog w=.ok () w'∧SetQ w' b (c+1) (fun q=>f q||decide (q=(x,y)))∧w.grownBy w' (some b):=by
 obtain ⟨D,h1,h2⟩:=h
 obtain ⟨kl,hkl⟩:=plq_key hx hy
 obtain ⟨w',hrun,h3,h4⟩:=h1.update (t:=76) (e:=114) plqKey Tryz.underlying76 hc hkl unitElem_mk
 have hm:Maps.IsMap D:=h1.isMap
 have hk:WideAt.IsKeyLit kl:=plqKey.key hkl
 refine ⟨w',hrun,⟨_,h3,fun a d kl' ha hd hkl'=>?_⟩,h4⟩
 by_cases e:(a,d)=(x,y)
 ·cases e
  rw [hkl] at hkl'
  cases hkl'
  rw [has_put_same hm hk]
  simp
 ·have hne:kl'≠kl:=fun e'=>e (by
   subst e'
   have:=plqKey.inj hkl' hkl
   simpa using this)
  rw [has_put_other hne,h2 a d kl' ha hd hkl']
  simp [e]
theorem SetQ.drop (h:SetQ w b c f) {x y:Int} (hx:i64 x) (hy:i64 y) (ty:TypeId):∃w',(Builtin.delete_ #[76,41] ty #[.map (some b),.agg #[.int .i64 x,.int .i64 y]]).run Tryz.prog w=.ok (.tuple #[]) w'∧SetQ w' b c (fun q=>f q&&!decide (q=(x,y)))∧w.grownBy w' (some b):=by
 obtain ⟨D,h1,h2⟩:=h
 obtain ⟨kl,hkl⟩:=plq_key hx hy
 obtain ⟨w',hrun,h3,h4⟩:=h1.drop (t:=76) (e:=114) plqKey Tryz.underlying76 hkl ty
 refine ⟨w',hrun,⟨_,h3,fun a d kl' ha hd hkl'=>?_⟩,h4.grown⟩
 by_cases e:(a,d)=(x,y)
 ·cases e
  rw [hkl] at hkl'
  cases hkl'
  rw [has_del_same]
  simp
 ·have hne:kl'≠kl:=fun e'=>e (by
   subst e'
   have:=plqKey.inj hkl' hkl
   simpa using this)
  rw [has_del_other hne,h2 a d kl' ha hd hkl']
  simp [e]
end
def MapT (w:World) (b c:Nat) (f:Int→Option Int):Prop:=∃D:DataW Unit,w.ownsMap Tryz.prog 3 (plainElem Tryz.prog 3) b c D∧∀n,i64 n→Maps.has D (.int .i64 n)=(f n).isSome∧∀v,f n=some v→∀z,D.atKey (.int .i64 n) z=.lit (.int .i64 v)
set_option maxRecDepth 100000 in
theorem int_zeroT:∀w,(zeroValue 3).run Tryz.prog w=.ok (.int .i64 0) w:=fun w=>by kernel_rfl
section
variable {w w' : World} {b c : Nat} {f : Int → Option Int}
theorem MapT.made (w:World):MapT (w.alloc (.map #[] 0)) w.heap.size 0 (fun _=>none):=⟨.map [],World.ownsMap_made w _ _ _,fun _ _=>⟨rfl,fun v h=>by cases h⟩⟩
theorem MapT.lt (h:MapT w b c f):b < w.heap.size:=by obtain ⟨D,h1,h2⟩:=h;exact h1.lt
theorem MapT.kept {row:Option Nat} (h:MapT w b c f) (hg:w.grownBy w' row) (hne:some b≠row):MapT w' b c f:=by obtain ⟨D,h1,h2⟩:=h;exact ⟨D,h1.kept hg hne,h2⟩
theorem MapT.on (h:MapT w b c f) (hb:Below w.heap.size w w'):MapT w' b c f:=h.kept (grown_below hb) (by simp)
theorem MapT.eq {g:Int→Option Int} (h:MapT w b c f) (e:f=g):MapT w b c g:=e ▸ h
theorem MapT.obj (h:MapT w b c f):∃o:Obj,w.heap[b]?=some o∧(∀x,o≠.deferred x)∧o.isCells=false:=by
 obtain ⟨D,⟨es,clock,h1,_⟩,h2⟩:=h
 exact ⟨_,h1,(fun x e=>by cases e),rfl⟩
set_option maxRecDepth 100000 in
theorem MapT.look (h:MapT w b c f) {n v:Int} (hn:i64 n) (hv:f n=some v):(Instr.lookup 51 (.map (some b)) (.int .i64 n) false).run Tryz.prog w=.ok (.int .i64 v) w:=by
 obtain ⟨D,h1,h2⟩:=h
 obtain ⟨c',hrun,hat,-⟩:=h1.lookup_int (t:=51) (e:=3) intKey Tryz.underlying51 Tryz.underlying3 (int_zeroT w) (keyOf_int_mk Tryz.underlying3 (i64_wf hn))
 rw [(h2 n hn).2 v hv] at hat
 have e:v=c':=by simpa using hat
 rw [hrun,←e]
set_option maxRecDepth 100000 in
theorem MapT.look_ok (h:MapT w b c f) {n:Int} (hn:i64 n):∃v,(Instr.lookup 51 (.map (some b)) (.int .i64 n) true).run Tryz.prog w=.ok (.tuple #[.int .i64 v,.bool (f n).isSome]) w∧∀x,f n=some x→v=x:=by
 obtain ⟨D,h1,h2⟩:=h
 obtain ⟨v,ps,hrun,hv⟩:=h1.look_ok (t:=51) (e:=3) intKey Tryz.underlying51 (int_zeroT w) (plainElem_int Tryz.underlying3 (by decide)) (keyOf_int_mk Tryz.underlying3 (i64_wf hn))
 obtain ⟨c',rfl,hc,-⟩:=plainElem_int_inv Tryz.underlying3 hv
 refine ⟨c',by rw [hrun,(h2 n hn).1],fun x hx=>?_⟩
 have h3:=congrArg Prod.fst hc
 simp only at h3
 rw [(h2 n hn).2 x hx] at h3
 have e:x=c':=by simpa using h3
 exact e.symm
theorem MapT.put (h:MapT w b c f) {n v:Int} (hn:i64 n) (hv:i64 v) (hc:c < maxLen):∃w',(Instr.mapUpdate 51 (.map (some b)) (.int .i64 n) (.int .i64 v)).run Tryz.prog w=.ok () w'∧MapT w' b (c+1) (fun x=>if x=n then some v else f x)∧w.grownBy w' (some b):=by
 obtain ⟨D,h1,h2⟩:=h
 obtain ⟨w',hrun,h3,h4⟩:=h1.update (t:=51) (e:=3) intKey Tryz.underlying51 hc (keyOf_int_mk Tryz.underlying3 (i64_wf hn)) (plainElem_int Tryz.underlying3 (i64_wf hv))
 have hm:Maps.IsMap D:=h1.isMap
 have hk:WideAt.IsKeyLit (.int .i64 n):=intKey.key (keyOf_int_mk Tryz.underlying3 (i64_wf hn))
 refine ⟨w',hrun,⟨_,h3,fun x hx=>?_⟩,h4⟩
 by_cases e:x=n
 ·subst e
  refine ⟨by rw [has_put_same hm hk];simp,fun y hy z=>?_⟩
  have hy2:v=y:=by simpa using hy
  subst hy2
  exact atKey_put_same hm hk _ z
 ·have hne:Lit.int .i64 x≠Lit.int .i64 n:=by simpa using e
  refine ⟨by rw [has_put_other hne,(h2 x hx).1];simp [e],fun y hy z=>?_⟩
  have hy2:f x=some y:=by simpa [e] using hy
  rw [atKey_put_other hne]
  exact (h2 x hx).2 y hy2 z
end
end Go.Proofs.YtnhegahpfacdgaaGreat

namespace Go.Proofs.YtnhegahpfacdgaaGreat
open Go.RowKit Go.Shelf Plain Go.Maps

def SetP (w:World) (b c:Nat) (f:Int×Int→Bool):Prop:=∃D:DataW Unit,w.ownsMap Tryz.prog 146 unitElem b c D∧∀x y kl,i64 x→i64 y→keyOf Tryz.prog 146 (.agg #[.int .i64 x,.int .i64 y])=some kl→Maps.has D kl=f (x,y)
section
variable {w w' : World} {b c : Nat} {f : Int × Int → Bool}
theorem SetP.made (w:World):SetP (w.alloc (.map #[] 0)) w.heap.size 0 (fun _=>false):=⟨.map [],World.ownsMap_made w _ _ _,fun _ _ _ _ _ _=>rfl⟩
theorem SetP.lt (h:SetP w b c f):b < w.heap.size:=by obtain ⟨D,h1,h2⟩:=h;exact h1.lt
theorem SetP.kept {row:Option Nat} (h:SetP w b c f) (hg:w.grownBy w' row) (hne:some b≠row):SetP w' b c f:=by obtain ⟨D,h1,h2⟩:=h;exact ⟨D,h1.kept hg hne,h2⟩
theorem SetP.on (h:SetP w b c f) (hb:Below w.heap.size w w'):SetP w' b c f:=h.kept (grown_below hb) (by simp)
theorem SetP.eq {g:Int×Int→Bool} (h:SetP w b c f) (e:f=g):SetP w b c g:=e ▸ h
theorem SetP.obj (h:SetP w b c f):∃o:Obj,w.heap[b]?=some o∧(∀x,o≠.deferred x)∧o.isCells=false:=by
 obtain ⟨D,⟨es,clock,h1,_⟩,h2⟩:=h
 exact ⟨_,h1,(fun x e=>by cases e),rfl⟩
end
end Go.Proofs.YtnhegahpfacdgaaGreat

namespace Go.Proofs.YtnhegahpfacdgaaGreat
open Go.RowKit Plain

theorem index_no {l:List UInt8} (h:∀c∈l,c≠47):Lib.indexByte l 47 = -1:=by
 induction l with
 | nil=>rfl
 | cons x r ih =>
  have hx:(x==47)=false:=by simpa using h x List.mem_cons_self
  have hr:=ih (fun c hc=>h c (List.mem_cons_of_mem _ hc))
  unfold Lib.indexByte
  rw [hx,hr]
  rfl
theorem index_yes {p q:List UInt8} (h:∀c∈p,c≠47):Lib.indexByte (p++47::q) 47=p.length:=by
 induction p with
 | nil=>rfl
 | cons x r ih =>
  have hx:(x==47)=false:=by simpa using h x List.mem_cons_self
  have hr:=ih (fun c hc=>h c (List.mem_cons_of_mem _ hc))
  rw [List.cons_append]
  unfold Lib.indexByte
  rw [hx,hr]
  have:(((r.length:Nat):Int) == -1)=false:=by simp
  rw [this]
  simp

def CutRet (w:World) (p q:List UInt8) (b:Bool) (x:Ending) (w':World):Prop:=x=.returned (.tuple #[st p,st q,.bool b])∧∃n,w'=w.drewN n

set_option maxHeartbeats 400000 in
theorem CutL_no {l:List UInt8} (h:∀c∈l,c≠47) (w:World) :
  Calls Tryz.prog 108 #[st l,.string ⟨#[47]⟩] w (CutRet w l [] false):=by
 have hc:=fun (w:World)=>Tryz.stringslite_Index_one ⟨l.toArray⟩ 47 w
 simp only [index_no h] at hc
 have HC:=hide hc
 clear hc h
 unfold st
 go_enter Tryz.func108,Tryz.ntmps108
 go_wp2_with fail
 refine (HC.out _).mono ?_
 rintro e w' ⟨rfl,rfl⟩
 go_wp2_with fail
 go_ret3
 exact ⟨rfl,0,rfl⟩

set_option maxHeartbeats 400000 in
theorem CutL_yes {p q:List UInt8} (h:∀c∈p,c≠47) (w:World) (hn:(p++47::q).length≤140737488355328) :
  Calls Tryz.prog 108 #[st (p++47::q),.string ⟨#[47]⟩] w (CutRet w p q true):=by
 have hc:=fun (w:World)=>Tryz.stringslite_Index_one ⟨(p++47::q).toArray⟩ 47 w
 simp only [index_yes h] at hc
 have HC:=hide hc
 obtain ⟨l,hl⟩:∃l,p++47::q=l:=⟨_,rfl⟩
 rw [hl] at HC hn ⊢
 have hln:p.length+1≤l.length:=by rw [←hl];simp
 have HL:=hide hl
 clear hc h hl
 unfold st
 have c1:(0:Int)≤(p.length:Int):=by omega
 have c2:(p.length:Int)≤(l.length:Int):=by omega
 have c3:(0:Int)≤(p.length:Int)+1:=by omega
 have c4:(p.length:Int)+1≤(l.length:Int):=by omega
 have hw1:IntKind.i64.wrap ((p.length:Int)+1)=(p.length:Int)+1:=IntWalk.i64_in _ (by omega)
 have hw2:((p.length:Int)+1).toNat=p.length+1:=by omega
 go_enter Tryz.func108,Tryz.ntmps108
 go_wp2_with fail
 refine (HC.out _).mono ?_
 rintro e w' ⟨rfl,rfl⟩
 go_wp2_with fail
 go_region
 go_wp2
 go_ret3
 have hl:=HL.out
 have e1:({data:=l.toArray}:ByteArray).extract 0 p.length=⟨p.toArray⟩:=by rw [Lib.extract_eq,←hl];simp
 have e2:({data:=l.toArray}:ByteArray).extract (p.length+1) l.length=⟨q.toArray⟩:=by
  rw [Lib.extract_eq,←hl]
  simp
  exact List.take_of_length_le (by omega)
 refine ⟨?_,1,rfl⟩
 show Ending.returned (.tuple #[.string (({data:=l.toArray}:ByteArray).extract 0 p.length),.string (({data:=l.toArray}:ByteArray).extract (p.length+1) l.length),.bool true])=_
 rw [e1,e2]
 rfl
theorem Cut_of {l p q:List UInt8} {b:Bool} (h:∀w:World,Calls Tryz.prog 108 #[st l,.string ⟨#[47]⟩] w (CutRet w p q b)) (w:World) :
  Calls Tryz.prog 100 #[st l,.string ⟨#[47]⟩] w (CutRet w p q b):=by
 have H:=hide h
 clear h
 unfold st
 go_enter Tryz.func100,Tryz.ntmps100
 go_wp2_with fail
 refine (H.out _).mono ?_
 rintro e w' ⟨rfl,n,rfl⟩
 go_wp2_with fail
 go_ret3
 exact ⟨rfl,n,rfl⟩
theorem Cut_no {l:List UInt8} (h:∀c∈l,c≠47) (w:World):Calls Tryz.prog 100 #[st l,.string ⟨#[47]⟩] w (CutRet w l [] false):=Cut_of (fun w=>CutL_no h w) w
theorem Cut_yes {p q:List UInt8} (h:∀c∈p,c≠47) (w:World) (hn:(p++47::q).length≤140737488355328):Calls Tryz.prog 100 #[st (p++47::q),.string ⟨#[47]⟩] w (CutRet w p q true):=Cut_of (fun w=>CutL_yes h w hn) w
end Go.Proofs.YtnhegahpfacdgaaGreat

namespace Go.Proofs.YtnhegahpfacdgaaGreat
open Go.RowKit Plain

def lettersL:List UInt8:=[97,98,99,100,101,102,103,104,105,106,107,108,109,110,111,112,113,114,115,116,117,118,119,120,121,122,48,49,50,51,52,53,54,55,56,57,46,95,45]
theorem letters_fin:∀x:Fin 256,decide (Lib.indexByte lettersL x.val.toUInt8 < 0)=!letB x.val:=by decide +kernel
theorem letters_any {x:Nat} (hx:x < 256):decide (Lib.indexByte lettersL ((x:Int).toNat.toUInt8) < 0)=!letB x:=by
 have:=letters_fin ⟨x,hx⟩
 simpa using this

set_option maxHeartbeats 400000 in
theorem Strange_any {x:Nat} (hx:x < 256) (w:World) :
  Calls Tryz.prog 78 #[.int .u8 x] w fun e w'=>e=.returned (.bool (!letB x))∧w=w':=by
 obtain ⟨r,hr⟩:∃r,Lib.indexByte lettersL ((x:Int).toNat.toUInt8)=r:=⟨_,rfl⟩
 have hl:=letters_any hx
 rw [hr] at hl
 have HL:=hide hl
 have hc:=Tryz.strings_IndexByte ⟨lettersL.toArray⟩ x w
 rw [show (⟨lettersL.toArray⟩:ByteArray).data.toList=lettersL from rfl,hr] at hc
 have HC:=hide hc
 clear hl hr hc
 go_enter Tryz.func78,Tryz.ntmps78
 go_wp2_with fail
 refine HC.out.mono ?_
 rintro e w' ⟨rfl,rfl⟩
 go_wp2_with fail
 go_ret
 exact ⟨ret_bool HL.out,rfl⟩
abbrev strangeV:Value:=.func (.func 78) #[] #[]
def Found (w:World) (b:Bool) (e:Ending) (w':World):Prop:=∃r:Int,e=.returned (.int .i64 r)∧decide (0≤r)=!b∧w=w'

set_option maxHeartbeats 400000 in
theorem IndexFunc_b {A:Option Addr} {m c B:Nat} {l:List UInt8} {b:Bool} (w:World) (ha:Bs w B A m l) (hm:m≤140737488355328) (h:(l.all fun x=>letB x.toNat)=b) :
  Calls Tryz.prog 98 #[.slice A m c,strangeV] w (Found w b):=by
 have HB:=hide h
 have HA:=hide ha
 have hl:=ha.len
 clear h ha
 go_enter Tryz.func98,Tryz.ntmps98
 go_wp2_with fail
 go_loop [8] (fun i=>∃k:Nat,k≤m∧i=.int .i64 k∧((l.take k).all fun x=>letB x.toNat)=true) (fun i=>m - (intOf i).toNat)
 case atStart=>exact ⟨0,Nat.zero_le _,rfl,rfl⟩
 case round =>
  obtain ⟨k,hk,rfl,hall⟩:=hrel
  have HALL:=hide hall
  clear hall
  by_cases hlt:k < m
  ·obtain ⟨bb,o,rfl,_,hcell⟩:=HA.out.2 (by omega)
   have hkl:k < l.length:=by omega
   have hx:=hcell k l[k] (List.getElem?_eq_getElem hkl)
   have hb:=l[k].toNat_lt
   clear hcell
   obtain ⟨x,hxe⟩:∃x:Nat,l[k].toNat=x:=⟨_,rfl⟩
   simp only [bv,hxe] at hx
   rw [hxe] at hb
   have hts:=all_take_succ (p:=fun x=>letB x.toNat) hkl
   have haf:=all_false (p:=fun x=>letB x.toNat) hkl
   simp only [hxe] at hts haf
   have HTS:=hide hts
   have HAF:=hide haf
   clear hts haf hxe
   cases hb2:letB x with
   | true =>
    have HB2:=hide hb2
    clear hb2 hkl hl
    go_wp2_with fail
    refine (Strange_any hb _).mono ?_
    rw [HB2.out]
    rintro e w' ⟨rfl,rfl⟩
    go_wp2_with fail
    go_round
    case rel=>exact ⟨k+1,by omega,by go_num,by rw [HTS.out,HALL.out,HB2.out];rfl⟩
    case measure=>simp [intOf];omega
   | false =>
    have hbf:b=false:=by rw [←HB.out];exact HAF.out hb2
    have HB2:=hide hb2
    have HBF:=hide hbf
    clear hb2 hbf hkl hl
    go_wp2_with fail
    refine (Strange_any hb _).mono ?_
    rw [HB2.out]
    rintro e w' ⟨rfl,rfl⟩
    go_wp2_with fail
    go_ret
    rw [HBF.out]
    exact ⟨_,rfl,by simp,rfl⟩
  ·have hbt:b=true:=by
    rw [←HB.out]
    have:=HALL.out
    rwa [List.take_of_length_le (by omega)] at this
   have HBT:=hide hbt
   clear hbt hl
   go_wp2_with fail
   go_ret
   rw [HBT.out]
   exact ⟨_,rfl,by simp,rfl⟩

set_option maxHeartbeats 400000 in
theorem ContainsFunc_b {A:Option Addr} {m c B:Nat} {l:List UInt8} {b:Bool} (w:World) (ha:Bs w B A m l) (hm:m≤140737488355328) (h:(l.all fun x=>letB x.toNat)=b) :
  Calls Tryz.prog 80 #[.slice A m c,strangeV] w fun e w'=>e=.returned (.bool (!b))∧w=w':=by
 have HB:=hide h
 have HA:=hide ha
 clear h ha
 go_enter Tryz.func80,Tryz.ntmps80
 go_wp2_with fail
 refine (IndexFunc_b _ HA.out hm HB.out).mono ?_
 rintro e w' ⟨r,rfl,hr,rfl⟩
 have HR:=hide hr
 clear hr
 go_wp2_with fail
 go_ret
 exact ⟨ret_bool HR.out,rfl⟩
end Go.Proofs.YtnhegahpfacdgaaGreat

namespace Go.Proofs.YtnhegahpfacdgaaGreat
open Go.RowKit Plain

set_option maxHeartbeats 400000 in
theorem NRight_any (l:List UInt8) (w:World) (hl:l.length≤140737488355328) :
  Calls Tryz.prog 52 #[st l] w (BoolB w (nameB l)):=by
 unfold st
 by_cases h1:l=[]
 ·subst h1
  go_enter Tryz.func52,Tryz.ntmps52
  go_wp2_with fail
  go_ret
  exact BoolB.of (below_self w)
 by_cases h2:12 < l.length
 ·have hr:nameB l=false:=by
   have:decide (1≤l.length∧l.length≤12)=false:=by simp;omega
   simp [nameB,this]
  rw [hr]
  clear hr
  have e1:¬l=[]:=h1
  have d1:(l==[])=false:=by simpa using h1
  have d2:decide ((12:Int) < (l.length:Int))=true:=by simp;omega
  clear h1
  go_enter Tryz.func52,Tryz.ntmps52
  go_wp2_with fail
  go_ret
  exact BoolB.of (below_self w)
 by_cases h3:l=[46]
 ·subst h3
  go_enter Tryz.func52,Tryz.ntmps52
  go_wp2_with fail
  go_ret
  exact BoolB.of (below_self w)
 by_cases h4:l=[46,46]
 ·subst h4
  go_enter Tryz.func52,Tryz.ntmps52
  go_wp2_with fail
  go_ret
  exact BoolB.of (below_self w)
 have d2:decide ((12:Int) < (l.length:Int))=false:=by simp;omega
 have d1:(l==[])=false:=by simpa using h1
 have d3:(l==[46])=false:=by simpa using h3
 have d4:(l==[46,46])=false:=by simpa using h4
 have hr:nameB l=l.all fun x=>letB x.toNat:=by
  have hpos:0 < l.length:=List.length_pos_iff.2 h1
  have:decide (1≤l.length∧l.length≤12)=true:=by simp;omega
  simp [nameB,this,d3,d4]
 obtain ⟨b,hb⟩:∃b,nameB l=b:=⟨_,rfl⟩
 rw [hb]
 rw [hr] at hb
 have HB:=hide hb
 clear hr hb h1 h3 h4 h2
 have kc:=Lib.run_convert_string_bytes (P:=Tryz.prog) w 9 58 5 ⟨l.toArray⟩ Tryz.underlying9 Tryz.underlying58 Tryz.underlying5
 go_enter Tryz.func52,Tryz.ntmps52
 go_wp2_with fail
 clear kc
 refine (ContainsFunc_b _ (Bs.bytesWorld w 5 l) hl HB.out).mono ?_
 rintro e w' ⟨rfl,rfl⟩
 go_wp2_with fail
 go_ret
 exact BoolB.eq (by simp) (below_bytesWorld _ _ _)
theorem NRight_b {l:List UInt8} {b:Bool} (h:nameB l=b) (w:World) (hl:l.length≤140737488355328) :
  Calls Tryz.prog 52 #[st l] w (BoolB w b):=by
 have:=NRight_any l w hl;rw [h] at this;exact this
end Go.Proofs.YtnhegahpfacdgaaGreat

