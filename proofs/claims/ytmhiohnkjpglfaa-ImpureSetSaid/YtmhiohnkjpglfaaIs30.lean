import Derived.Test.YtmhiohnkjpglfaaIs29
import Derived.Test.YtmhiohnkjpglfaaIs21
import Derived.Test.YtmhiohnkjpglfaaIs6
import Derived.Test.YtmhiohnkjpglfaaIs4
import Derived.Test.YtmhiohnkjpglfaaIs22
import Derived.Test.YtmhiohnkjpglfaaIs7
import Derived.StillTailTactics
import Derived.Test.YtmhiohnkjpglfaaProg
import Derived.Test.YtmhiohnkjpglfaaIs20
import Derived.Test.YtmhiohnkjpglfaaIs28
import Derived.Test.YtmhiohnkjpglfaaIs25
import Derived.Lib.Bytealg
import Derived.Lib.CutLaws
import Derived.Lib.Join
import Derived.Shelf.Small.Wraps
import Derived.Shelf.Small.Strs
import Derived.Shelf.Strings.Prefix
import Derived.Shelf.Slices.Clone
import Derived.Shelf.Slices.CompactS
import Derived.Shelf.Slices.Cells
import Derived.Test.YtmhiohnkjpglfaaIs1
import Derived.Lib.SlicesCompact
import Derived.Sort.Row
import Derived.Sort.OwnSorted
import Derived.Lib.RowBridge
import Derived.BigQuiet
import Derived.Deep.QuietTactic
import Derived.Test.YtmhiohnkjpglfaaIs12
import Derived.Test.YtmhiohnkjpglfaaIs2
import Derived.Test.YtmhiohnkjpglfaaRows
import Derived.IntWalk
import Derived.Laws.Cover3

namespace Go.Proofs.Ytmhiohnkjpglfaa
open Go.RowKit Go.Shelf Plain

set_option maxRecDepth 100000 in
theorem ens_size:∀w,(Go.sizeOf 40).run Try.prog w=.ok 1 w:=fun _=>rfl
end Go.Proofs.Ytmhiohnkjpglfaa

namespace Go.Proofs.Ytmhiohnkjpglfaa
open Go.RowKit Go.Shelf Plain
structure FinV where
 (c l i s:Int)
 deriving DecidableEq
def finC (x:FinV):List Value:=[.int .i64 x.c,.int .i64 x.l,.int .i64 x.i,.int .i64 x.s]
def finEn : Enc FinV where
 k:=4
 R:=fun _ _ cs x=>cs=finC x
 len:=fun h=>by rw [h];rfl
 one:=fun h v hv=>by
  rw [h] at hv
  simp only [finC,List.mem_cons,List.not_mem_nil,or_false] at hv
  rcases hv with rfl|rfl|rfl|rfl <;> rfl
 mono:=fun h _ _=>h
theorem RdE.get_fin {w:World} {D:Nat→Prop} {A:Option Addr} {n:Nat} {l:List FinV} (h:RdE finEn w D A n l) {i:Nat} {x:FinV} (hx:l[i]?=some x) :
  ∃b o,A=some ⟨b,o,none⟩∧D b∧∀j v,(finC x)[j]?=some v→w.cell? ⟨b,o+i*4+j,none⟩=some v:=by
 have hi:=(List.getElem?_eq_some_iff.1 hx).1
 obtain ⟨b,o,e,hb,hc⟩:=h.2 (by have:=h.1;omega)
 obtain ⟨cs,hcs,hcell⟩:=hc i x hx
 refine ⟨b,o,e,hb,fun j v hv=>?_⟩
 have:=hcell j v (by rw [show cs=finC x from hcs];exact hv)
 rwa [show o+(i*finEn.k+j)=o+i*4+j from by show o+(i*4+j)=o+i*4+j;omega] at this
theorem fin_agg:∀w,(isAgg 35).run Try.prog w=.ok true w:=fun w=>by kernel_rfl
theorem fin_size:∀w,(Go.sizeOf 35).run Try.prog w=.ok 4 w:=fun w=>by kernel_rfl
set_option maxHeartbeats 1600000 in
set_option maxRecDepth 100000 in
theorem neq_fin (x:FinV) (W:World):(binOp .neq 35 (.agg #[.int .i64 x.c,.int .i64 x.l,.int .i64 x.i,.int .i64 x.s]) (.agg #[.int .i64 x.c,.int .i64 x.l,.int .i64 x.i,.int .i64 x.s])).run Try.prog W=.ok (.bool false) W:=by
 simp [go_sem]
set_option maxHeartbeats 800000 in
theorem EqualFin_same {A B:Option Addr} {n m c d:Nat} {L:List FinV} (w:World) (ha:RdE finEn w (Under w.heap.size) A n L) (hb:RdE finEn w (Under w.heap.size) B m L) (hn:n≤140737488355328) :
  Calls Try.prog 7 #[.slice A n c,.slice B m d] w (BoolB w true):=by
 obtain rfl:n=m:=by rw [←ha.1,←hb.1]
 have HA:=hide ha
 have HB:=hide hb
 clear ha hb
 have hd:((n:Int) != (n:Int))=false:=by simp
 go_enter Try.func7,Try.ntmps7
 go_wp2
 go_loopw [13] (fun i wr=>∃j q:Nat,j≤n∧i=.int .i64 j∧wr=w.drewN q) (fun i _=>n - (intOf i).toNat)
 case atStart=>exact ⟨0,0,by omega,rfl,rfl⟩
 case round =>
  obtain ⟨j,q,hj,rfl,rfl⟩:=hrel
  by_cases hlt:j < n
  ·have hl1:j < L.length:=by rw [HA.out.1];exact hlt
   obtain ⟨b1,o1,rfl,-,hc1⟩:=HA.out.get_fin (List.getElem?_eq_getElem hl1)
   obtain ⟨b2,o2,rfl,-,hc2⟩:=HB.out.get_fin (List.getElem?_eq_getElem hl1)
   generalize L[j]=y at hc1 hc2
   have hL1:∀q,(Instr.loadAt 35 (.pointer (some ⟨b1,o1+j*4,none⟩))).run Try.prog (w.drewN q)=.ok (.agg #[.int .i64 y.c,.int .i64 y.l,.int .i64 y.i,.int .i64 y.s]) (w.drewN q):=fun q=>run_loadAt_cells (w:=w.drewN q) fin_agg fin_size hc1 rfl
   have hL2:∀q,(Instr.loadAt 35 (.pointer (some ⟨b2,o2+j*4,none⟩))).run Try.prog (w.drewN q)=.ok (.agg #[.int .i64 y.c,.int .i64 y.l,.int .i64 y.i,.int .i64 y.s]) (w.drewN q):=fun q=>run_loadAt_cells (w:=w.drewN q) fin_agg fin_size hc2 rfl
   have hne:=fun W=>neq_fin y W
   clear hc1 hc2 hl1
   go_wp2
   refine wp_region_quiet_lit (by kernel_rfl) (by kernel_rfl) ?_
   iterate 3 (quiet_step (fail))
   refine Go.BigFrame.wpQuiet_want rfl (fun K hK=>?_)
   refine quietL 35 (.tmp 18) rfl _ _ rfl (by rintro _ ⟨n',rfl⟩;rw [World.drewN_drewN];exact hL1 _) (hK _ ?_)
   clear hK K
   iterate 3 (quiet_step (fail))
   refine Go.BigFrame.wpQuiet_want rfl (fun K hK=>?_)
   refine quietL 35 (.tmp 22) rfl _ _ rfl (by rintro _ ⟨n',rfl⟩;rw [World.drewN_drewN];exact hL2 _) (hK _ ?_)
   clear hK K
   iterate 1 (quiet_step (fail))
   refine wpQuiet_nil ?_
   rintro _ ⟨nq,rfl⟩
   go_wp2
   go_roundw
   case rel=>exact ⟨j+1,_,by omega,by go_num,rfl⟩
   case measure=>simp [intOf];omega
  ·obtain rfl:j=n:=by omega
   go_wp2
   go_ret
   exact BoolB.of (below_drewN (below_self w) _)
end Go.Proofs.Ytmhiohnkjpglfaa

namespace Go.Proofs.Ytmhiohnkjpglfaa
open Go.RowKit Go.Shelf Plain

def has4 (x:NodV):Bool:=decide (x.att.h / 4 % 2=1)
end Go.Proofs.Ytmhiohnkjpglfaa

namespace Go.Proofs.Ytmhiohnkjpglfaa
open Go.RowKit Go.Shelf Plain

def copI (up:List NodV) (e:EntV):Bool:=has4 (nodAt up e.ino)
def wantI (up:List NodV) (rs:List Bool) (i:Int):Int:=if (nodAt up i).k=1∧rs[(i - 1).toNat]?=some true∧(nodAt up i).ents.any (copI up)=true then 121 else 0
def badI (up:List NodV) (rs:List Bool) (i:Nat) (x:NodV) (r:Bool):Bool:=(r||(decide (i=1∨i=2)&&decide (x.k=1)))&&decide (x.p≠wantI up rs ((i:Int)+1))
def oneI (up:List NodV) (rs:List Bool) (i:Nat):List FinV:=match up[i]?,rs[i]? with
 | some x,some r=>if badI up rs i x r=true then [⟨18,0,(i:Int)+1,-1⟩] else []
 | _,_=>[]
def findI (up:List NodV) (rs:List Bool) (n:Nat):List FinV:=(List.range n).flatMap (oneI up rs)
theorem findI_succ (up:List NodV) (rs:List Bool) (n:Nat):findI up rs (n+1)=findI up rs n++oneI up rs n:=by
 unfold findI
 rw [List.range_succ,List.flatMap_append]
 simp
theorem oneI_is {up:List NodV} {rs:List Bool} {i:Nat} {x:NodV} {r b:Bool} (hx:up[i]?=some x) (hr:rs[i]?=some r) (hb:badI up rs i x r=b):oneI up rs i=if b=true then [⟨18,0,(i:Int)+1,-1⟩] else []:=by
 unfold oneI
 rw [hx,hr]
 simp only [hb]
theorem wantI_no {up:List NodV} (rs:List Bool) {i:Int} (h:(nodAt up i).k≠1):wantI up rs i=0:=by
 unfold wantI
 rw [if_neg (fun hh=>h hh.1)]
theorem wantI_is {up:List NodV} {rs:List Bool} {i:Int} {r b:Bool} (hk:(nodAt up i).k=1) (hr:rs[(i - 1).toNat]?=some r) (hb:(nodAt up i).ents.any (copI up)=b):wantI up rs i=if r=true∧b=true then 121 else 0:=by
 unfold wantI
 rw [hr,hb]
 simp [hk]
def LikeU (a b:List NodV):Prop:=a.length=b.length∧∀i:Int,(nodAt a i).k=(nodAt b i).k∧(nodAt a i).ents=(nodAt b i).ents∧(nodAt a i).att=(nodAt b i).att
theorem walk_like {a b:List NodV} (h:LikeU a b) (ff:List Int):walkW a ff=walkW b ff:=by
 have h1:isDir a=isDir b:=funext fun i=>by unfold isDir;rw [(h.2 i).1]
 have h2:dirsOf a=dirsOf b:=funext fun l=>by unfold dirsOf;rw [h1]
 have h3:visitW a=visitW b:=funext fun p=>funext fun s=>by
  unfold visitW
  cases s.1[p]? with
  | none=>rfl
  | some y=>simp only [h2,(h.2 y.ino).2.1]
 have h4:∀f p s,runW a f p s=runW b f p s:=by
  intro f
  induction f with
  | zero=>intro p s;rfl
  | succ f ih=>intro p s;unfold runW;rw [h3,ih]
 have h5:rootW a=rootW b:=funext fun s=>funext fun i=>by unfold rootW;rw [h1,h4,h.1]
 unfold walkW
 rw [h5]
theorem reach_like {a b:List NodV} (h:LikeU a b) (l:List WayV):reachL a l=reachL b l:=by
 have h1:entF a=entF b:=funext fun bs=>funext fun e=>by unfold entF inN;rw [h.1]
 have h2:wayF a=wayF b:=funext fun bs=>funext fun y=>by unfold wayF;rw [h1,(h.2 y.ino).2.1]
 unfold reachL
 rw [h2,h.1]
theorem want_like {a b:List NodV} (h:LikeU a b) (rs:List Bool) (i:Int):wantI a rs i=wantI b rs i:=by
 have h1:copI a=copI b:=funext fun e=>by unfold copI has4;rw [(h.2 e.ino).2.2]
 unfold wantI
 rw [h1,(h.2 i).1,(h.2 i).2.1]
def setI (up:List NodV) (rs:List Bool) (i:Nat):List NodV:=up.mapIdx (fun j x=>if j < i then {x with p:=wantI up rs ((j:Int)+1)} else x)
theorem setI_len (up:List NodV) (rs:List Bool) (i:Nat):(setI up rs i).length=up.length:=by simp [setI]
theorem setI_zero (up:List NodV) (rs:List Bool):setI up rs 0=up:=by
 apply List.ext_getElem?
 intro j
 unfold setI
 rw [List.getElem?_mapIdx]
 cases up[j]? <;> simp
theorem setI_at {up:List NodV} (rs:List Bool) {i:Nat} {x:NodV} (h:up[i]?=some x):(setI up rs i)[i]?=some x:=by
 unfold setI
 rw [List.getElem?_mapIdx,h]
 simp
theorem setI_succ {up:List NodV} (rs:List Bool) {i:Nat} {x:NodV} (h:up[i]?=some x):setI up rs (i+1)=(setI up rs i).set i {x with p:=wantI up rs ((i:Int)+1)}:=by
 apply List.ext_getElem?
 intro j
 rw [List.getElem?_set]
 unfold setI
 rw [List.getElem?_mapIdx,List.getElem?_mapIdx,List.length_mapIdx]
 by_cases e:i=j
 ·subst e
  have hi:=(List.getElem?_eq_some_iff.1 h).1
  rw [if_pos rfl,if_pos hi,h]
  simp
 ·rw [if_neg e]
  cases up[j]? with
  | none=>rfl
  | some y =>
   have e2:(j < i+1)=(j < i):=propext ⟨fun _=>by omega,fun _=>by omega⟩
   simp only [Option.map_some,e2]
theorem setI_like (up:List NodV) (rs:List Bool) (i:Nat):LikeU (setI up rs i) up:=by
 refine ⟨setI_len up rs i,fun j=>?_⟩
 unfold nodAt
 rw [setI_len]
 by_cases hc:1≤j∧j≤(up.length:Int)
 ·rw [if_pos hc,if_pos hc]
  unfold setI
  rw [List.getElem?_mapIdx]
  cases up[(j - 1).toNat]? with
  | none=>simp
  | some y =>
   simp only [Option.map_some,Option.getD_some]
   split <;> simp
 ·rw [if_neg hc,if_neg hc]
  simp
theorem setI_plain {up:List NodV} (h:FewU up) (rs:List Bool) (i:Nat):FewU (setI up rs i):=by
 refine ⟨by rw [setI_len];exact h.1,fun y hy=>?_⟩
 obtain ⟨j,hj⟩:=List.getElem?_of_mem hy
 unfold setI at hj
 rw [List.getElem?_mapIdx] at hj
 cases hx:up[j]? with
 | none=>rw [hx] at hj;cases hj
 | some x =>
  rw [hx] at hj
  have hp:=h.2 x (List.mem_of_getElem? hx)
  simp only [Option.map_some,Option.some.injEq] at hj
  subst hj
  split
  ·exact hp
  ·exact hp
theorem set_none (up : List NodV) {rs : List Bool} : ∀ n, n ≤ up.length → findI (setI up rs up.length) rs n = []
 | 0,_=>rfl
 | n+1,hn=>by
  rw [findI_succ,set_none up n (by omega),List.nil_append]
  unfold oneI
  cases hx:(setI up rs up.length)[n]? with
  | none=>rfl
  | some y =>
   cases hr:rs[n]? with
   | none=>rfl
   | some r =>
    have hy:y.p=wantI up rs ((n:Int)+1):=by
     unfold setI at hx
     rw [List.getElem?_mapIdx,List.getElem?_eq_getElem (show n < up.length by omega)] at hx
     simp only [Option.map_some,Option.some.injEq] at hx
     rw [if_pos (by omega)] at hx
     rw [←hx]
    have hb:badI (setI up rs up.length) rs n y r=false:=by
     unfold badI
     rw [want_like (setI_like up rs up.length),hy]
     simp
    simp only [hb]
    rfl
theorem set_reach (up:List NodV) (rs:List Bool) (i:Nat):reachL (setI up rs i) (walkW (setI up rs i) [1]).1=reachL up (walkW up [1]).1:=by
 rw [walk_like (setI_like up rs i),reach_like (setI_like up rs i)]
end Go.Proofs.Ytmhiohnkjpglfaa

namespace Go.Proofs.Ytmhiohnkjpglfaa
open Go.RowKit Go.Shelf Plain

def Two (B lo:Nat) (w:World) (b:Nat):Prop:=b < B∨(lo≤b∧b < w.heap.size)
end Go.Proofs.Ytmhiohnkjpglfaa

namespace Go.Proofs.Ytmhiohnkjpglfaa
open Go.RowKit Go.Shelf Plain

def upC1 (E:Value):List Value:=nodC ndD (.slice none 0 0) E++(nodC ndD (.slice none 0 0) (.slice none 0 0)++(nodC ndD (.slice none 0 0) (.slice none 0 0)++(nodC nod0 (.slice none 0 0) (.slice none 0 0)++nodC nod0 (.slice none 0 0) (.slice none 0 0))))
end Go.Proofs.Ytmhiohnkjpglfaa

namespace Go.Proofs.Ytmhiohnkjpglfaa
open Go.RowKit Go.Shelf Plain

theorem hcell {w w':World} {b o:Nat} {cs:List Value} (h:∀k x,cs[k]?=some x→w.cell? ⟨b,o+k,none⟩=some x) {B:Nat} (hb:Below B w w') (hlt:b < B):∀k x,cs[k]?=some x→w'.cell? ⟨b,o+k,none⟩=some x:=fun k x hx=>(hb.cell (p:=⟨b,o+k,none⟩) hlt).trans (h k x hx)
end Go.Proofs.Ytmhiohnkjpglfaa

