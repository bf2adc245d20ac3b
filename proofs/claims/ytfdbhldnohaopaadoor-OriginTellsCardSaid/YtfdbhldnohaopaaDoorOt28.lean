import Derived.Test.YtfdbhldnohaopaaDoorOt5
import Derived.Test.YtfdbhldnohaopaaDoorOt4
import Derived.Test.YtfdbhldnohaopaaDoorOt18
import Derived.Test.YtfdbhldnohaopaaDoorOt6
import Derived.StillTailTactics
import Derived.Test.YtfdbhldnohaopaaDoorProg
import Derived.Test.YtfdbhldnohaopaaDoorOt27
import Derived.Test.YtfdbhldnohaopaaDoorOt26
import Derived.Test.YtfdbhldnohaopaaDoorOt25
import Derived.Test.YtfdbhldnohaopaaDoorOt17
import Derived.Lib.Bytealg
import Derived.Lib.CutLaws
import Derived.Lib.Join
import Derived.Shelf.Small.Wraps
import Derived.Shelf.Small.Strs
import Derived.Shelf.Strings.Prefix
import Derived.Shelf.Slices.Clone
import Derived.Shelf.Slices.CompactS
import Derived.Shelf.Slices.Cells
import Derived.IntWalk
import Derived.Test.YtfdbhldnohaopaaDoorOt2
import Derived.Test.YtfdbhldnohaopaaDoorOt16
import Derived.ScopeJumps
import Derived.WalkMore
import Derived.BigQuiet
import Derived.Deep.QuietTactic
import Derived.Test.YtfdbhldnohaopaaDoorRows
import Derived.Laws.Cover3
import Derived.Test.YtfdbhldnohaopaaDoorOt1
import Derived.Lib.SlicesCompact
import Derived.Sort.Row
import Derived.Sort.OwnSorted
import Derived.Lib.RowBridge
import Derived.Test.YtfdbhldnohaopaaDoorOt9
import Derived.Test.YtfdbhldnohaopaaDoorOt23
import Derived.Test.YtfdbhldnohaopaaDoorOt24

namespace Go.Proofs.YtfdbhldnohaopaaDoor
open Go.RowKit Go.Shelf Plain
structure FinV where
 (c l i s:Int)
 deriving DecidableEq
def finC (x:FinV):List Value:=[.int .i64 x.c,.int .i64 x.l,.int .i64 x.i,.int .i64 x.s]
def finEn : Enc FinV where
 k:=4
 R:=fun _ _ cs x=>cs=finC x
 len:=fun h=>by rw [h];rfl
 one:=fun h v hv=>by
  rw [h] at hv
  simp only [finC,List.mem_cons,List.not_mem_nil,or_false] at hv
  rcases hv with rfl|rfl|rfl|rfl <;> rfl
 mono:=fun h _ _=>h
theorem RdE.get_fin {w:World} {D:Nat→Prop} {A:Option Addr} {n:Nat} {l:List FinV} (h:RdE finEn w D A n l) {i:Nat} {x:FinV} (hx:l[i]?=some x) :
  ∃b o,A=some ⟨b,o,none⟩∧D b∧∀j v,(finC x)[j]?=some v→w.cell? ⟨b,o+i*4+j,none⟩=some v:=by
 have hi:=(List.getElem?_eq_some_iff.1 hx).1
 obtain ⟨b,o,e,hb,hc⟩:=h.2 (by have:=h.1;omega)
 obtain ⟨cs,hcs,hcell⟩:=hc i x hx
 refine ⟨b,o,e,hb,fun j v hv=>?_⟩
 have:=hcell j v (by rw [show cs=finC x from hcs];exact hv)
 rwa [show o+(i*finEn.k+j)=o+i*4+j from by show o+(i*4+j)=o+i*4+j;omega] at this
theorem fin_agg:∀w,(isAgg 44).run Tryd.prog w=.ok true w:=fun w=>by kernel_rfl
theorem fin_size:∀w,(Go.sizeOf 44).run Tryd.prog w=.ok 4 w:=fun w=>by kernel_rfl
set_option maxHeartbeats 1600000 in
set_option maxRecDepth 100000 in
theorem neq_fin (x:FinV) (W:World):(binOp .neq 44 (.agg #[.int .i64 x.c,.int .i64 x.l,.int .i64 x.i,.int .i64 x.s]) (.agg #[.int .i64 x.c,.int .i64 x.l,.int .i64 x.i,.int .i64 x.s])).run Tryd.prog W=.ok (.bool false) W:=by
 simp [go_sem]
set_option maxHeartbeats 800000 in
theorem EqualFin_same {A B:Option Addr} {n m c d:Nat} {L:List FinV} (w:World) (ha:RdE finEn w (Under w.heap.size) A n L) (hb:RdE finEn w (Under w.heap.size) B m L) (hn:n≤140737488355328) :
  Calls Tryd.prog 8 #[.slice A n c,.slice B m d] w (BoolB w true):=by
 obtain rfl:n=m:=by rw [←ha.1,←hb.1]
 have HA:=hide ha
 have HB:=hide hb
 clear ha hb
 have hd:((n:Int) != (n:Int))=false:=by simp
 go_enter Tryd.func8,Tryd.ntmps8
 go_wp2
 go_loopw [13] (fun i wr=>∃j q:Nat,j≤n∧i=.int .i64 j∧wr=w.drewN q) (fun i _=>n - (intOf i).toNat)
 case atStart=>exact ⟨0,0,by omega,rfl,rfl⟩
 case round =>
  obtain ⟨j,q,hj,rfl,rfl⟩:=hrel
  by_cases hlt:j < n
  ·have hl1:j < L.length:=by rw [HA.out.1];exact hlt
   obtain ⟨b1,o1,rfl,-,hc1⟩:=HA.out.get_fin (List.getElem?_eq_getElem hl1)
   obtain ⟨b2,o2,rfl,-,hc2⟩:=HB.out.get_fin (List.getElem?_eq_getElem hl1)
   generalize L[j]=y at hc1 hc2
   have hL1:∀q,(Instr.loadAt 44 (.pointer (some ⟨b1,o1+j*4,none⟩))).run Tryd.prog (w.drewN q)=.ok (.agg #[.int .i64 y.c,.int .i64 y.l,.int .i64 y.i,.int .i64 y.s]) (w.drewN q):=fun q=>run_loadAt_cells (w:=w.drewN q) fin_agg fin_size hc1 rfl
   have hL2:∀q,(Instr.loadAt 44 (.pointer (some ⟨b2,o2+j*4,none⟩))).run Tryd.prog (w.drewN q)=.ok (.agg #[.int .i64 y.c,.int .i64 y.l,.int .i64 y.i,.int .i64 y.s]) (w.drewN q):=fun q=>run_loadAt_cells (w:=w.drewN q) fin_agg fin_size hc2 rfl
   have hne:=fun W=>neq_fin y W
   clear hc1 hc2 hl1
   go_wp2
   refine wp_region_quiet_lit (by kernel_rfl) (by kernel_rfl) ?_
   iterate 3 (quiet_step (fail))
   refine Go.BigFrame.wpQuiet_want rfl (fun K hK=>?_)
   refine quietL 44 (.tmp 18) rfl _ _ rfl (by rintro _ ⟨n',rfl⟩;rw [World.drewN_drewN];exact hL1 _) (hK _ ?_)
   clear hK K
   iterate 3 (quiet_step (fail))
   refine Go.BigFrame.wpQuiet_want rfl (fun K hK=>?_)
   refine quietL 44 (.tmp 22) rfl _ _ rfl (by rintro _ ⟨n',rfl⟩;rw [World.drewN_drewN];exact hL2 _) (hK _ ?_)
   clear hK K
   iterate 1 (quiet_step (fail))
   refine wpQuiet_nil ?_
   rintro _ ⟨nq,rfl⟩
   go_wp2
   go_roundw
   case rel=>exact ⟨j+1,_,by omega,by go_num,rfl⟩
   case measure=>simp [intOf];omega
  ·obtain rfl:j=n:=by omega
   go_wp2
   go_ret
   exact BoolB.of (below_drewN (below_self w) _)
end Go.Proofs.YtfdbhldnohaopaaDoor

namespace Go.Proofs.YtfdbhldnohaopaaDoor
open Go.RowKit Go.Shelf Plain

def has1 (x:NodV):Bool:=decide (x.att.h % 2=1)
def has4 (x:NodV):Bool:=decide (x.att.h / 4 % 2=1)
def has16 (x:NodV):Bool:=decide (x.att.h / 16 % 2=1)
def oddO (x:NodV):Bool:=has1 x&&(decide (x.k≠1)||decide (x.att.o≠121))
def staleO (ls:List (List NodV)) (x:NodV):Bool:=has4 x&&(if x.k=1 then decide ((handF ls (orgOf x)).1.k≠1) else if x.k=2∨x.k=3 then !(handF ls (orgOf x)).2||decide ((handF ls (orgOf x)).1.k=1) else true)
def lacksO (ls:List (List NodV)) (x:NodV):Bool:=has16 x&&(decide (x.k≠2)||!has4 x||decide ((handF ls (orgOf x)).1.k≠2))
def violO (ls:List (List NodV)) (c:Int) (x:NodV):Bool:=if c=8 then oddO x else if c=13 then staleO ls x else if c=14 then lacksO ls x else false
def oneO (up:List NodV) (ls:List (List NodV)) (rs:List Bool) (c:Int) (i:Nat):List FinV:=match up[i]?,rs[i]? with
 | some x,some true=>if violO ls c x=true then [⟨c,0,(i:Int)+1,-1⟩] else []
 | _,_=>[]
def rowO (up:List NodV) (ls:List (List NodV)) (rs:List Bool) (c:Int) (n:Nat):List FinV:=(List.range n).flatMap (oneO up ls rs c)
def findO (up:List NodV) (ls:List (List NodV)) (rs:List Bool):List FinV:=rowO up ls rs 8 up.length++rowO up ls rs 13 up.length++rowO up ls rs 14 up.length
theorem rowO_succ (up:List NodV) (ls:List (List NodV)) (rs:List Bool) (c:Int) (n:Nat):rowO up ls rs c (n+1)=rowO up ls rs c n++oneO up ls rs c n:=by
 unfold rowO
 rw [List.range_succ,List.flatMap_append]
 simp
theorem oneO_is {up:List NodV} {ls:List (List NodV)} {rs:List Bool} {c:Int} {i:Nat} {x:NodV} {r v:Bool} (hx:up[i]?=some x) (hr:rs[i]?=some r) (hv:violO ls c x=v):oneO up ls rs c i=if r=true∧v=true then [⟨c,0,(i:Int)+1,-1⟩] else []:=by
 unfold oneO
 rw [hx,hr]
 cases r <;> cases v <;> simp [hv]
theorem oneO_len (up:List NodV) (ls:List (List NodV)) (rs:List Bool) (c:Int) (i:Nat):(oneO up ls rs c i).length≤1:=by
 unfold oneO
 split
 ·split <;> simp
 ·simp
theorem rowO_len (up : List NodV) (ls : List (List NodV)) (rs : List Bool) (c : Int) : ∀ n, (rowO up ls rs c n).length ≤ n
 | 0=>by simp [rowO]
 | n+1=>by
  have h1:=rowO_len up ls rs c n
  have h2:=oneO_len up ls rs c n
  rw [rowO_succ,List.length_append]
  omega
theorem rowO_none (up : List NodV) (ls : List (List NodV)) (rs : List Bool) {c : Int} (h : ∀ x ∈ up, violO ls c x = false) : ∀ n, rowO up ls rs c n = []
 | 0=>rfl
 | n+1=>by
  rw [rowO_succ,rowO_none up ls rs h n]
  unfold oneO
  split
  ·rename_i x hx _
   rw [h x (List.mem_of_getElem? hx)]
   rfl
  ·rfl
def refO (up:List NodV) (ls:List (List NodV)) (rs:List Bool) (k:Nat):List FinV:=(List.range k).flatMap (fun j:Nat=>rowO up ls rs (8+(j:Int)) up.length)
theorem refO_succ (up:List NodV) (ls:List (List NodV)) (rs:List Bool) (k:Nat):refO up ls rs (k+1)=refO up ls rs k++rowO up ls rs (8+(k:Int)) up.length:=by
 unfold refO
 rw [List.range_succ,List.flatMap_append]
 simp
theorem refO_find (up:List NodV) (ls:List (List NodV)) (rs:List Bool):refO up ls rs 7=findO up ls rs:=by
 have h:∀c:Int,c≠8→c≠13→c≠14→rowO up ls rs c up.length=[]:=fun c h1 h2 h3=>rowO_none up ls rs (fun x _=>by unfold violO;rw [if_neg h1,if_neg h2,if_neg h3]) _
 rw [refO_succ,refO_succ,refO_succ,refO_succ,refO_succ,refO_succ,refO_succ]
 rw [h (8+((1:Nat):Int)) (by decide) (by decide) (by decide),h (8+((2:Nat):Int)) (by decide) (by decide) (by decide),h (8+((3:Nat):Int)) (by decide) (by decide) (by decide),h (8+((4:Nat):Int)) (by decide) (by decide) (by decide)]
 simp [refO,findO]
theorem findO_len (up:List NodV) (ls:List (List NodV)) (rs:List Bool):(findO up ls rs).length≤3*up.length:=by
 have h1:=rowO_len up ls rs 8 up.length
 have h2:=rowO_len up ls rs 13 up.length
 have h3:=rowO_len up ls rs 14 up.length
 unfold findO
 rw [List.length_append,List.length_append]
 omega
end Go.Proofs.YtfdbhldnohaopaaDoor

namespace Go.Proofs.YtfdbhldnohaopaaDoor
open Go.RowKit Go.Shelf Plain

def Two (B lo:Nat) (w:World) (b:Nat):Prop:=b < B∨(lo≤b∧b < w.heap.size)
theorem HFind_p {g:GeoQ} {AU AL:Option Addr} {nU cU nL cL B:Nat} {up:List NodV} {ls:List (List NodV)} {o:Int×Int×Int} {y:NodV} {r:Bool} (hR:handF ls o=(y,r)) (w:World) (hu:RdE nodEn w (Under B) AU nU up) (h:RdE layEn w (Under B) AL nL ls) (hB:B≤w.heap.size) (hF:FewL ls) (hup:FewU up):Calls Tryd.prog 29 #[.agg (stkC g (.slice AU nU cU) (.slice AL nL cL)).toArray,.agg (orgC o).toArray] w (fun e w'=>∃A n c C m d,e=.returned (.tuple #[.agg (nodC y (.slice A n c) (.slice C m d)).toArray,.bool r])∧RdE Enc.byte w' (fun b=>w.heap.size≤b∧b < w'.heap.size) A n y.data∧Below w.heap.size w w'):=by
 have h1:=HFind_any (o:=o) (cU:=cU) (cL:=cL) (g:=g) w hu h hB hF hup
 rw [hR] at h1
 exact h1
end Go.Proofs.YtfdbhldnohaopaaDoor

namespace Go.Proofs.YtfdbhldnohaopaaDoor
open Go.RowKit Go.Shelf Plain

def upC1 (E:Value):List Value:=nodC ndD (.slice none 0 0) E++(nodC ndD (.slice none 0 0) (.slice none 0 0)++(nodC ndD (.slice none 0 0) (.slice none 0 0)++(nodC nod0 (.slice none 0 0) (.slice none 0 0)++nodC nod0 (.slice none 0 0) (.slice none 0 0))))
end Go.Proofs.YtfdbhldnohaopaaDoor

namespace Go.Proofs.YtfdbhldnohaopaaDoor
open Go.RowKit Go.Shelf Plain

set_option maxHeartbeats 800000 in
theorem rhas4_b {h:Int} {r:Bool} (h0:0≤h) (h1:h≤31) (hr:decide (h / 4 % 2=1)=r) (w:World):Calls Tryd.prog 41 #[.int .i64 h,.int .i64 4] w fun e w'=>e=.returned (.bool r)∧w=w':=by
 obtain ⟨k,hk⟩:∃k,h / 4=k:=⟨_,rfl⟩
 have hk0:0≤k:=by omega
 have hk1:k≤31:=by omega
 have ht:Int.tdiv h 4=k:=by rw [Int.tdiv_eq_ediv_of_nonneg h0,hk]
 have hw1:IntKind.i64.wrap k=k:=IntWalk.i64_in _ (by omega)
 have ht2:Int.tmod k 2=k % 2:=Int.tmod_eq_emod_of_nonneg hk0
 have hw2:IntKind.i64.wrap (k % 2)=k % 2:=IntWalk.i64_in _ (by omega)
 have hv:(k % 2==1)=r:=by
  rw [←hr,hk,Bool.eq_iff_iff]
  simp
 clear hr hk
 go_enter Tryd.func41,Tryd.ntmps41
 go_wp2
 go_ret
 exact ⟨by first|rfl|(rw [←hv])|(simp [hv])|(rw [←hv];simp),rfl⟩
set_option maxRecDepth 100000 in
set_option maxHeartbeats 1600000 in
theorem RHas4_b {a:AttV} {r:Bool} (h0:0≤a.h) (h1:a.h≤31) (hr:decide (a.h / 4 % 2=1)=r) (w:World):Calls Tryd.prog 28 #[.agg (attC a).toArray,.int .i64 4] w (BoolB w r):=by
 have r0:=RowL.new w 35 (attC a)
 have hb1:=below_new (below_self w) (.cells (attC a).toArray 35)
 obtain ⟨W1,hW1⟩:∃W1,w.alloc (.cells (attC a).toArray 35)=W1:=⟨_,rfl⟩
 rw [hW1] at r0 hb1
 have hW1':w.alloc (.cells #[.int .i64 a.h,.int .i64 a.o,.string ⟨a.r.toArray⟩,.int .i64 a.l,.int .i64 a.i,.int .i64 a.g,.int .i64 a.s] 35)=W1:=hW1
 have q0:W1.cell? ⟨w.heap.size,0,none⟩=some (.int .i64 a.h):=r0.cell 0
 have HB1:=hide hb1
 have HR:=hide hr
 have d0:decide (0≤a.h)=true:=decide_eq_true h0
 unfold attC
 clear r0 hb1 hW1 hr
 go_enter Tryd.func28,Tryd.ntmps28
 go_wp2_with (go_at_call 41;refine (rhas4_b h0 h1 HR.out _).mono ?_;rintro e w' ⟨rfl,rfl⟩)
 go_ret
 exact BoolB.of HB1.out
set_option maxHeartbeats 800000 in
theorem rhas16_b {h:Int} {r:Bool} (h0:0≤h) (h1:h≤31) (hr:decide (h / 16 % 2=1)=r) (w:World):Calls Tryd.prog 41 #[.int .i64 h,.int .i64 16] w fun e w'=>e=.returned (.bool r)∧w=w':=by
 obtain ⟨k,hk⟩:∃k,h / 16=k:=⟨_,rfl⟩
 have hk0:0≤k:=by omega
 have hk1:k≤31:=by omega
 have ht:Int.tdiv h 16=k:=by rw [Int.tdiv_eq_ediv_of_nonneg h0,hk]
 have hw1:IntKind.i64.wrap k=k:=IntWalk.i64_in _ (by omega)
 have ht2:Int.tmod k 2=k % 2:=Int.tmod_eq_emod_of_nonneg hk0
 have hw2:IntKind.i64.wrap (k % 2)=k % 2:=IntWalk.i64_in _ (by omega)
 have hv:(k % 2==1)=r:=by
  rw [←hr,hk,Bool.eq_iff_iff]
  simp
 clear hr hk
 go_enter Tryd.func41,Tryd.ntmps41
 go_wp2
 go_ret
 exact ⟨by first|rfl|(rw [←hv])|(simp [hv])|(rw [←hv];simp),rfl⟩
set_option maxRecDepth 100000 in
set_option maxHeartbeats 1600000 in
theorem RHas16_b {a:AttV} {r:Bool} (h0:0≤a.h) (h1:a.h≤31) (hr:decide (a.h / 16 % 2=1)=r) (w:World):Calls Tryd.prog 28 #[.agg (attC a).toArray,.int .i64 16] w (BoolB w r):=by
 have r0:=RowL.new w 35 (attC a)
 have hb1:=below_new (below_self w) (.cells (attC a).toArray 35)
 obtain ⟨W1,hW1⟩:∃W1,w.alloc (.cells (attC a).toArray 35)=W1:=⟨_,rfl⟩
 rw [hW1] at r0 hb1
 have hW1':w.alloc (.cells #[.int .i64 a.h,.int .i64 a.o,.string ⟨a.r.toArray⟩,.int .i64 a.l,.int .i64 a.i,.int .i64 a.g,.int .i64 a.s] 35)=W1:=hW1
 have q0:W1.cell? ⟨w.heap.size,0,none⟩=some (.int .i64 a.h):=r0.cell 0
 have HB1:=hide hb1
 have HR:=hide hr
 have d0:decide (0≤a.h)=true:=decide_eq_true h0
 unfold attC
 clear r0 hb1 hW1 hr
 go_enter Tryd.func28,Tryd.ntmps28
 go_wp2_with (go_at_call 41;refine (rhas16_b h0 h1 HR.out _).mono ?_;rintro e w' ⟨rfl,rfl⟩)
 go_ret
 exact BoolB.of HB1.out
end Go.Proofs.YtfdbhldnohaopaaDoor

namespace Go.Proofs.YtfdbhldnohaopaaDoor
open Go.RowKit Go.Shelf Plain

theorem TwoS.keep {Wx W:World} {base r5 t5 k5 r6 t6 k6:Nat} (h:TwoS Wx base r5 t5 k5 r6 t6 k6 W) {b o:Nat} (hb:b < Wx.heap.size) (h5:b≠r5) (h6:b≠r6):W.cell? ⟨b,o,none⟩=Wx.cell? ⟨b,o,none⟩:=World.cell?_of_block (w:=Wx) (h.1 b hb h5 h6)
end Go.Proofs.YtfdbhldnohaopaaDoor

