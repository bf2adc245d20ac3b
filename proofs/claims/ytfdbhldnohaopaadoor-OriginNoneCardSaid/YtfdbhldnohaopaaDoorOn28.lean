import Derived.Test.YtfdbhldnohaopaaDoorOn6
import Derived.Test.YtfdbhldnohaopaaDoorOn5
import Derived.Test.YtfdbhldnohaopaaDoorOn19
import Derived.Test.YtfdbhldnohaopaaDoorOn7
import Derived.StillTailTactics
import Derived.Test.YtfdbhldnohaopaaDoorProg
import Derived.Test.YtfdbhldnohaopaaDoorOn27
import Derived.Test.YtfdbhldnohaopaaDoorOn26

namespace Go.Proofs.YtfdbhldnohaopaaDoor
open Go.RowKit Go.Shelf Plain
structure FinV where
 (c l i s:Int)
 deriving DecidableEq
def finC (x:FinV):List Value:=[.int .i64 x.c,.int .i64 x.l,.int .i64 x.i,.int .i64 x.s]
def finEn : Enc FinV where
 k:=4
 R:=fun _ _ cs x=>cs=finC x
 len:=fun h=>by rw [h];rfl
 one:=fun h v hv=>by
  rw [h] at hv
  simp only [finC,List.mem_cons,List.not_mem_nil,or_false] at hv
  rcases hv with rfl|rfl|rfl|rfl <;> rfl
 mono:=fun h _ _=>h
theorem RdE.get_fin {w:World} {D:Nat→Prop} {A:Option Addr} {n:Nat} {l:List FinV} (h:RdE finEn w D A n l) {i:Nat} {x:FinV} (hx:l[i]?=some x) :
  ∃b o,A=some ⟨b,o,none⟩∧D b∧∀j v,(finC x)[j]?=some v→w.cell? ⟨b,o+i*4+j,none⟩=some v:=by
 have hi:=(List.getElem?_eq_some_iff.1 hx).1
 obtain ⟨b,o,e,hb,hc⟩:=h.2 (by have:=h.1;omega)
 obtain ⟨cs,hcs,hcell⟩:=hc i x hx
 refine ⟨b,o,e,hb,fun j v hv=>?_⟩
 have:=hcell j v (by rw [show cs=finC x from hcs];exact hv)
 rwa [show o+(i*finEn.k+j)=o+i*4+j from by show o+(i*4+j)=o+i*4+j;omega] at this
theorem fin_agg:∀w,(isAgg 44).run Tryd.prog w=.ok true w:=fun w=>by kernel_rfl
theorem fin_size:∀w,(Go.sizeOf 44).run Tryd.prog w=.ok 4 w:=fun w=>by kernel_rfl
set_option maxHeartbeats 1600000 in
set_option maxRecDepth 100000 in
theorem neq_fin (x:FinV) (W:World):(binOp .neq 44 (.agg #[.int .i64 x.c,.int .i64 x.l,.int .i64 x.i,.int .i64 x.s]) (.agg #[.int .i64 x.c,.int .i64 x.l,.int .i64 x.i,.int .i64 x.s])).run Tryd.prog W=.ok (.bool false) W:=by
 simp [go_sem]
set_option maxHeartbeats 800000 in
theorem EqualFin_same {A B:Option Addr} {n m c d:Nat} {L:List FinV} (w:World) (ha:RdE finEn w (Under w.heap.size) A n L) (hb:RdE finEn w (Under w.heap.size) B m L) (hn:n≤140737488355328) :
  Calls Tryd.prog 8 #[.slice A n c,.slice B m d] w (BoolB w true):=by
 obtain rfl:n=m:=by rw [←ha.1,←hb.1]
 have HA:=hide ha
 have HB:=hide hb
 clear ha hb
 have hd:((n:Int) != (n:Int))=false:=by simp
 go_enter Tryd.func8,Tryd.ntmps8
 go_wp2
 go_loopw [13] (fun i wr=>∃j q:Nat,j≤n∧i=.int .i64 j∧wr=w.drewN q) (fun i _=>n - (intOf i).toNat)
 case atStart=>exact ⟨0,0,by omega,rfl,rfl⟩
 case round =>
  obtain ⟨j,q,hj,rfl,rfl⟩:=hrel
  by_cases hlt:j < n
  ·have hl1:j < L.length:=by rw [HA.out.1];exact hlt
   obtain ⟨b1,o1,rfl,-,hc1⟩:=HA.out.get_fin (List.getElem?_eq_getElem hl1)
   obtain ⟨b2,o2,rfl,-,hc2⟩:=HB.out.get_fin (List.getElem?_eq_getElem hl1)
   generalize L[j]=y at hc1 hc2
   have hL1:∀q,(Instr.loadAt 44 (.pointer (some ⟨b1,o1+j*4,none⟩))).run Tryd.prog (w.drewN q)=.ok (.agg #[.int .i64 y.c,.int .i64 y.l,.int .i64 y.i,.int .i64 y.s]) (w.drewN q):=fun q=>run_loadAt_cells (w:=w.drewN q) fin_agg fin_size hc1 rfl
   have hL2:∀q,(Instr.loadAt 44 (.pointer (some ⟨b2,o2+j*4,none⟩))).run Tryd.prog (w.drewN q)=.ok (.agg #[.int .i64 y.c,.int .i64 y.l,.int .i64 y.i,.int .i64 y.s]) (w.drewN q):=fun q=>run_loadAt_cells (w:=w.drewN q) fin_agg fin_size hc2 rfl
   have hne:=fun W=>neq_fin y W
   clear hc1 hc2 hl1
   go_wp2
   refine wp_region_quiet_lit (by kernel_rfl) (by kernel_rfl) ?_
   iterate 3 (quiet_step (fail))
   refine Go.BigFrame.wpQuiet_want rfl (fun K hK=>?_)
   refine quietL 44 (.tmp 18) rfl _ _ rfl (by rintro _ ⟨n',rfl⟩;rw [World.drewN_drewN];exact hL1 _) (hK _ ?_)
   clear hK K
   iterate 3 (quiet_step (fail))
   refine Go.BigFrame.wpQuiet_want rfl (fun K hK=>?_)
   refine quietL 44 (.tmp 22) rfl _ _ rfl (by rintro _ ⟨n',rfl⟩;rw [World.drewN_drewN];exact hL2 _) (hK _ ?_)
   clear hK K
   iterate 1 (quiet_step (fail))
   refine wpQuiet_nil ?_
   rintro _ ⟨nq,rfl⟩
   go_wp2
   go_roundw
   case rel=>exact ⟨j+1,_,by omega,by go_num,rfl⟩
   case measure=>simp [intOf];omega
  ·obtain rfl:j=n:=by omega
   go_wp2
   go_ret
   exact BoolB.of (below_drewN (below_self w) _)
end Go.Proofs.YtfdbhldnohaopaaDoor

namespace Go.Proofs.YtfdbhldnohaopaaDoor
open Go.RowKit Go.Shelf Plain

def has1 (x:NodV):Bool:=decide (x.att.h % 2=1)
def has4 (x:NodV):Bool:=decide (x.att.h / 4 % 2=1)
def has16 (x:NodV):Bool:=decide (x.att.h / 16 % 2=1)
def oddO (x:NodV):Bool:=has1 x&&(decide (x.k≠1)||decide (x.att.o≠121))
def staleO (ls:List (List NodV)) (x:NodV):Bool:=has4 x&&(if x.k=1 then decide ((handF ls (orgOf x)).1.k≠1) else if x.k=2∨x.k=3 then !(handF ls (orgOf x)).2||decide ((handF ls (orgOf x)).1.k=1) else true)
def lacksO (ls:List (List NodV)) (x:NodV):Bool:=has16 x&&(decide (x.k≠2)||!has4 x||decide ((handF ls (orgOf x)).1.k≠2))
def violO (ls:List (List NodV)) (c:Int) (x:NodV):Bool:=if c=8 then oddO x else if c=13 then staleO ls x else if c=14 then lacksO ls x else false
def oneO (up:List NodV) (ls:List (List NodV)) (rs:List Bool) (c:Int) (i:Nat):List FinV:=match up[i]?,rs[i]? with
 | some x,some true=>if violO ls c x=true then [⟨c,0,(i:Int)+1,-1⟩] else []
 | _,_=>[]
def rowO (up:List NodV) (ls:List (List NodV)) (rs:List Bool) (c:Int) (n:Nat):List FinV:=(List.range n).flatMap (oneO up ls rs c)
def findO (up:List NodV) (ls:List (List NodV)) (rs:List Bool):List FinV:=rowO up ls rs 8 up.length++rowO up ls rs 13 up.length++rowO up ls rs 14 up.length
theorem rowO_succ (up:List NodV) (ls:List (List NodV)) (rs:List Bool) (c:Int) (n:Nat):rowO up ls rs c (n+1)=rowO up ls rs c n++oneO up ls rs c n:=by
 unfold rowO
 rw [List.range_succ,List.flatMap_append]
 simp
theorem oneO_is {up:List NodV} {ls:List (List NodV)} {rs:List Bool} {c:Int} {i:Nat} {x:NodV} {r v:Bool} (hx:up[i]?=some x) (hr:rs[i]?=some r) (hv:violO ls c x=v):oneO up ls rs c i=if r=true∧v=true then [⟨c,0,(i:Int)+1,-1⟩] else []:=by
 unfold oneO
 rw [hx,hr]
 cases r <;> cases v <;> simp [hv]
theorem oneO_len (up:List NodV) (ls:List (List NodV)) (rs:List Bool) (c:Int) (i:Nat):(oneO up ls rs c i).length≤1:=by
 unfold oneO
 split
 ·split <;> simp
 ·simp
theorem rowO_len (up : List NodV) (ls : List (List NodV)) (rs : List Bool) (c : Int) : ∀ n, (rowO up ls rs c n).length ≤ n
 | 0=>by simp [rowO]
 | n+1=>by
  have h1:=rowO_len up ls rs c n
  have h2:=oneO_len up ls rs c n
  rw [rowO_succ,List.length_append]
  omega
theorem rowO_none (up : List NodV) (ls : List (List NodV)) (rs : List Bool) {c : Int} (h : ∀ x ∈ up, violO ls c x = false) : ∀ n, rowO up ls rs c n = []
 | 0=>rfl
 | n+1=>by
  rw [rowO_succ,rowO_none up ls rs h n]
  unfold oneO
  split
  ·rename_i x hx _
   rw [h x (List.mem_of_getElem? hx)]
   rfl
  ·rfl
theorem violO_none (ls:List (List NodV)) (c:Int) {x:NodV} (h:x.att.h=0):violO ls c x=false:=by
 have h1:has1 x=false:=by unfold has1;rw [h];rfl
 have h2:has4 x=false:=by unfold has4;rw [h];rfl
 have h3:has16 x=false:=by unfold has16;rw [h];rfl
 unfold violO oddO staleO lacksO
 rw [h1,h2,h3]
 simp
theorem findO_none (up:List NodV) (ls:List (List NodV)) (rs:List Bool) (h:∀x∈up,x.att.h=0):findO up ls rs=[]:=by
 unfold findO
 rw [rowO_none up ls rs (fun x hx=>violO_none ls 8 (h x hx)),rowO_none up ls rs (fun x hx=>violO_none ls 13 (h x hx)),rowO_none up ls rs (fun x hx=>violO_none ls 14 (h x hx))]
 rfl
end Go.Proofs.YtfdbhldnohaopaaDoor

namespace Go.Proofs.YtfdbhldnohaopaaDoor
open Go.RowKit Go.Shelf Plain

def Two (B lo:Nat) (w:World) (b:Nat):Prop:=b < B∨(lo≤b∧b < w.heap.size)
theorem HFind_p {g:GeoQ} {AU AL:Option Addr} {nU cU nL cL B:Nat} {up:List NodV} {ls:List (List NodV)} {o:Int×Int×Int} {y:NodV} {r:Bool} (hR:handF ls o=(y,r)) (w:World) (hu:RdE nodEn w (Under B) AU nU up) (h:RdE layEn w (Under B) AL nL ls) (hB:B≤w.heap.size) (hF:FewL ls) (hup:FewU up):Calls Tryd.prog 29 #[.agg (stkC g (.slice AU nU cU) (.slice AL nL cL)).toArray,.agg (orgC o).toArray] w (fun e w'=>∃A n c C m d,e=.returned (.tuple #[.agg (nodC y (.slice A n c) (.slice C m d)).toArray,.bool r])∧RdE Enc.byte w' (fun b=>w.heap.size≤b∧b < w'.heap.size) A n y.data∧Below w.heap.size w w'):=by
 have h1:=HFind_any (o:=o) (cU:=cU) (cL:=cL) (g:=g) w hu h hB hF hup
 rw [hR] at h1
 exact h1
end Go.Proofs.YtfdbhldnohaopaaDoor

namespace Go.Proofs.YtfdbhldnohaopaaDoor
open Go.RowKit Go.Shelf Plain

def upC1 (E:Value):List Value:=nodC ndD (.slice none 0 0) E++(nodC ndD (.slice none 0 0) (.slice none 0 0)++(nodC ndD (.slice none 0 0) (.slice none 0 0)++(nodC nod0 (.slice none 0 0) (.slice none 0 0)++nodC nod0 (.slice none 0 0) (.slice none 0 0))))
end Go.Proofs.YtfdbhldnohaopaaDoor

