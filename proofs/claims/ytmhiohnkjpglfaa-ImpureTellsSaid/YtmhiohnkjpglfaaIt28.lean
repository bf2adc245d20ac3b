import Derived.Test.YtmhiohnkjpglfaaIt4
import Derived.Test.YtmhiohnkjpglfaaIt27
import Derived.Test.YtmhiohnkjpglfaaIt19
import Derived.Test.YtmhiohnkjpglfaaIt5
import Derived.Test.YtmhiohnkjpglfaaIt20
import Derived.Test.YtmhiohnkjpglfaaIt6
import Derived.StillTailTactics
import Derived.Test.YtmhiohnkjpglfaaProg
import Derived.Test.YtmhiohnkjpglfaaIt18
import Derived.Test.YtmhiohnkjpglfaaIt26

namespace Go.Proofs.Ytmhiohnkjpglfaa
open Go.RowKit
variable {α β : Type} {E : Enc α}

theorem append_stays {P : Program} {w w' : World} {base : Nat} {t ty e : TypeId} {i : TypeInfo} {z : Value} {size k : Nat} (ht : P.underlying t = some (.slice e)) (hi : P.info? e = some i) (hz : i.zero = some z) (hsz : i.size = size) (hby : i.bytes = k)
  {v v':Value} {n:Nat} {xs:List Value} (hown:w.ownsRow base e size v n xs) {a:Addr} {m c:Nat} (hr:(Builtin.append_ #[t,t] ty #[v,.slice (some a) m c]).run P w=.ok v' w') {news:List Value} (hl:news.length=m*size)
  (hnews:∀j u,news[j]?=some u→w.cell? (a.add j)=some u) (h1:∀u∈news,u.oneCell'=true) (hbytes:(n+m)*k≤140737488355328) (hnm:n+m≤140737488355328) :
  v'.ownBlock=v.ownBlock∨Below w.heap.size w w':=by
 subst hsz
 subst hby
 rcases hown.2 with ⟨rfl,rfl⟩|⟨g,cap,cur,rfl,hbg,hg,hnc,hcm,hcs,htake⟩
 ·by_cases hm:m=0
  ·subst hm
   have h2:(Builtin.append_ #[t,t] ty #[.slice none 0 0,.slice (some a) 0 c]).run P w=.ok (.slice none 0 0) w:=by
    simp [Builtin.append_,run_underlying ht,sizeOf,typeInfo,hi,Builtin.lenOf,Builtin.firstCells,loadCells,loadCellsFrom]
   rw [h2] at hr
   cases hr
   exact .inl rfl
  ·have h2:=run_append_nil (P:=P) w t ty e i z ht hi hz a m c news hl hnews (by omega) (by omega) (by have hb:=hbytes;simp only [Nat.zero_add] at hb;omega)
   rw [h2] at hr
   cases hr
   exact .inr ((Below.refl w.heap.size w).drew.alloc (Nat.le_refl _) _)
 ·by_cases hroom:n+m≤cap
  ·have hfit:n*i.size+news.length≤cur.size:=by rw [hl,hcs,←Nat.add_mul];exact Nat.mul_le_mul_right _ hroom
   have h2:=run_append_room (P:=P) w t ty e i ht hi g n cap cur hg a m c news hl hnews h1 hroom hfit
   rw [h2] at hr
   cases hr
   exact .inl rfl
  ·have holds:∀j u,xs[j]?=some u→w.cell? ((⟨g,0,none⟩:Addr).add j)=some u:=hown.cells (g:=g) rfl
   have h2:=run_append_grow (P:=P) w t ty e i z ht hi hz ⟨g,0,none⟩ n cap xs hown.1 holds a m c news hl hnews (by omega) (by omega) (growslice_fits (by omega) hbytes)
   rw [h2] at hr
   cases hr
   exact .inr ((Below.refl w.heap.size w).drew.alloc (Nat.le_refl _) _)
theorem add_flat (g j:Nat):(⟨g,0,none⟩:Addr).add j=⟨g,j,none⟩:=by
 unfold Addr.add
 split
 ·rename_i h0;subst h0;rfl
 ·simp
theorem run_append_OwK [Tags] {P : Program} (w : World) (base : Nat) (t ty e : TypeId) (z : Value) (k : Nat) (ht : P.underlying t = some (.slice e)) (hinfo : (P.info? e).map (fun i => (i.zero, i.size, i.bytes)) = some (some z, E.k, k)) (hzs : z.cells.size = E.k) (hk : 0 < E.k)
  (A0:Option Addr) (n c0:Nat) (l0:List α) (hown:OwE E w base e A0 n c0 l0) (D:Nat→Prop) (A:Option Addr) (m c:Nat) (l1:List α) (hb:RdE E w D A m l1) (hD:∀b,D b→But w A0 b) (hm:0 < m)
  (hbytes:(n+m)*k≤140737488355328) (hnm:n+m≤140737488355328) (hbase:base≤w.heap.size) :
  ∃A' c' w',(Builtin.append_ #[t,t] ty #[.slice A0 n c0,.slice A m c]).run P w=.ok (.slice A' (n+m) c') w'∧OwE E w' base e A' (n+m) c' (l0++l1)∧Below base w w' ∧
   (∀g j u,A0=some ⟨g,0,none⟩→j < n*E.k→w.cell? ⟨g,j,none⟩=some u→w'.cell? ⟨g,j,none⟩=some u)∧w.grownBy w' (Value.slice A0 n c0).ownBlock:=by
 obtain ⟨A',c',w',hr,h2,h3⟩:=run_append_OwE (P:=P) w base t ty e z k ht hinfo hzs hk A0 n c0 l0 hown D A m c l1 hb hD hbytes hnm hbase
 obtain ⟨css,hrow,hc,hl⟩:=hown
 obtain ⟨v',w2,dss,hr2,hrow2,-,-,hgr,-⟩:=run_append_E (P:=P) w base t ty e z k ht hinfo hzs hk _ n css hrow D A m c l1 hb hbytes hnm hbase
 rw [hr] at hr2
 cases hr2
 refine ⟨A',c',w',hr,h2,h3,?_,hgr⟩
 intro g j u hA hj hu
 subst hA
 obtain ⟨i,hi,hz,hsz,hby⟩:=info_parts hinfo
 obtain ⟨b,o,ess,rfl,_,hC,hcell⟩:=hb.cells hm
 have hfl:=flat_len hC.lens
 have hfc:=flat_len hc.lens
 have hs:=append_stays (P:=P) ht hi hz hsz hby hrow hr (news:=ess.flatten) (by rw [hfl,hC.1,hb.1]) (fun j u hu=>by
  have:=hcell j u hu
  rw [←this]
  congr 1
  unfold Addr.add
  split
  ·rename_i h0;subst h0;rfl
  ·rfl) hC.ones hbytes hnm
 have hjl:j < css.flatten.length:=by rw [hfc,hc.1,hl];exact hj
 obtain ⟨x,hx⟩:∃x,css.flatten[j]?=some x:=⟨_,List.getElem?_eq_getElem hjl⟩
 have h4:=hrow.cells (g:=g) rfl j x hx
 rw [add_flat] at h4
 obtain rfl:u=x:=Option.some.inj (hu.symm.trans h4)
 rcases hs with hs|hs
 ·have h5:=hrow2.cells (g:=g) (by rw [hs];rfl) j u (by rw [List.flatten_append,List.getElem?_append_left hjl];exact hx)
  rw [add_flat] at h5
  exact h5
 ·rcases hrow.2 with ⟨h0,-⟩|⟨g',cap,cur,h0,-,hg,-⟩
  ·cases h0
  ·cases h0
   exact (hs.cell (p:=⟨g,j,none⟩) (by have:=Array.getElem?_eq_some_iff.1 hg;exact this.1)).trans hu
theorem wp_append_OwK [Tags] {P : Program} (w : World) {o : Oper} {a : Act} {K : Act → World → Prop} {Q : Exit → Act → World → Prop} (s x : Operand) (t : TypeId)
  (ho:o.op=.call {callee:=.builtin .append,args:=#[s,x],argTypes:=#[t,t]})
  (base:Nat) (e:TypeId) (z:Value) (k:Nat) (ht:P.underlying t=some (.slice e)) (hinfo:(P.info? e).map (fun i=>(i.zero,i.size,i.bytes))=some (some z,E.k,k)) (hzs:z.cells.size=E.k) (hk:0 < E.k)
  (A0:Option Addr) (n c0:Nat) (l0:List α) (hs:a.eval s=.slice A0 n c0) (hown:OwE E w base e A0 n c0 l0) (D:Nat→Prop) (A:Option Addr) (m c:Nat) (l1:List α) (hx:a.eval x=.slice A m c) (hb:RdE E w D A m l1) (hD:∀b,D b→But w A0 b) (hm:0 < m)
  (N:Nat) (hN:n+m=N) (hbytes:N*k≤140737488355328) (hnm:N≤140737488355328) (hbase:base≤w.heap.size)
  (h:∀A' c' w',OwE E w' base e A' N c' (l0++l1)→Below base w w'→(∀g j u,A0=some ⟨g,0,none⟩→j < n*E.k→w.cell? ⟨g,j,none⟩=some u→w'.cell? ⟨g,j,none⟩=some u)→w.grownBy w' (Value.slice A0 n c0).ownBlock→K (a.put o.dst (.slice A' N c')) w'):o.wp P a w K Q:=by
 subst hN
 obtain ⟨A',c',w',hr,h2,h3,h4,h5⟩:=run_append_OwK (P:=P) w base t o.type e z k ht hinfo hzs hk A0 n c0 l0 hown D A m c l1 hb hD hm hbytes hnm hbase
 unfold Oper.wp execOp
 simp only [ho,resolve,invoke,builtin,Sem.run_bind,Sem.run_pure,Result.andThen_ok,List.map_toArray,List.map_cons,List.map_nil,hs,hx,hr]
 exact h A' c' w' h2 h3 h4 h5
def KeepS (wX:World) (B b o:Nat) (vc:List Value) (W:World):Prop:=Below B wX W∧(∀k,k < wX.heap.size→k≠b→W.heap[k]?=wX.heap[k]?)∧∀k x,vc[k]?=some x→W.cell? ⟨b,o+k,none⟩=some x
theorem KeepS.on {wX W W':World} {B b o:Nat} {vc:List Value} (h:KeepS wX B b o vc W) (hb:Below W.heap.size W W') (hB:B≤wX.heap.size) (hlt:b < wX.heap.size):KeepS wX B b o vc W':=by
 have hs:=h.1.size
 exact ⟨h.1.trans (hb.mono (by omega)),fun k hk hne=>(hb.block k (by omega)).trans (h.2.1 k hk hne),fun k x hx=>(hb.cell (p:=⟨b,o+k,none⟩) (by exact Nat.lt_of_lt_of_le hlt hs)).trans (h.2.2 k x hx)⟩
theorem KeepS.row {wX W:World} {B b o g t:Nat} {vc cs:List Value} (h:KeepS wX B b o vc W) (hr:RowL wX g t cs) (hg:g≠b):RowL W g t cs:=(h.2.1 g hr.lt hg).trans hr
theorem KeepS.rd {α:Type} {E:Enc α} {wX W:World} {B b o:Nat} {vc:List Value} {D:Nat→Prop} {A:Option Addr} {n:Nat} {l:List α} (h:KeepS wX B b o vc W) (hr:RdE E wX D A n l) (hD:∀k,D k→k < wX.heap.size∧k≠b):RdE E W D A n l :=
 hr.mono (fun k hk=>h.2.1 k (hD k hk).1 (hD k hk).2) (fun _ h=>h)
theorem und_at {α:Type} {E:Enc α} {w w':World} {B C:Nat} {A:Option Addr} {n:Nat} {l:List α} (h:RdE E w (Under B) A n l) (hb:Below C w w') (hBC:B≤C):RdE E w' (Under B) A n l :=
 h.mono (fun b hb'=>hb.block b (by unfold Under at hb';omega)) (fun _ h=>h)
end Go.Proofs.Ytmhiohnkjpglfaa

namespace Go.Proofs.Ytmhiohnkjpglfaa
open Go.RowKit Go.Shelf Plain

set_option maxRecDepth 100000 in
theorem ens_size:∀w,(Go.sizeOf 40).run Try.prog w=.ok 1 w:=fun _=>rfl
end Go.Proofs.Ytmhiohnkjpglfaa

namespace Go.Proofs.Ytmhiohnkjpglfaa
open Go.RowKit Go.Shelf Plain
structure FinV where
 (c l i s:Int)
 deriving DecidableEq
def finC (x:FinV):List Value:=[.int .i64 x.c,.int .i64 x.l,.int .i64 x.i,.int .i64 x.s]
def finEn : Enc FinV where
 k:=4
 R:=fun _ _ cs x=>cs=finC x
 len:=fun h=>by rw [h];rfl
 one:=fun h v hv=>by
  rw [h] at hv
  simp only [finC,List.mem_cons,List.not_mem_nil,or_false] at hv
  rcases hv with rfl|rfl|rfl|rfl <;> rfl
 mono:=fun h _ _=>h
theorem RdE.get_fin {w:World} {D:Nat→Prop} {A:Option Addr} {n:Nat} {l:List FinV} (h:RdE finEn w D A n l) {i:Nat} {x:FinV} (hx:l[i]?=some x) :
  ∃b o,A=some ⟨b,o,none⟩∧D b∧∀j v,(finC x)[j]?=some v→w.cell? ⟨b,o+i*4+j,none⟩=some v:=by
 have hi:=(List.getElem?_eq_some_iff.1 hx).1
 obtain ⟨b,o,e,hb,hc⟩:=h.2 (by have:=h.1;omega)
 obtain ⟨cs,hcs,hcell⟩:=hc i x hx
 refine ⟨b,o,e,hb,fun j v hv=>?_⟩
 have:=hcell j v (by rw [show cs=finC x from hcs];exact hv)
 rwa [show o+(i*finEn.k+j)=o+i*4+j from by show o+(i*4+j)=o+i*4+j;omega] at this
theorem fin_agg:∀w,(isAgg 35).run Try.prog w=.ok true w:=fun w=>by kernel_rfl
theorem fin_size:∀w,(Go.sizeOf 35).run Try.prog w=.ok 4 w:=fun w=>by kernel_rfl
set_option maxHeartbeats 1600000 in
set_option maxRecDepth 100000 in
theorem neq_fin (x:FinV) (W:World):(binOp .neq 35 (.agg #[.int .i64 x.c,.int .i64 x.l,.int .i64 x.i,.int .i64 x.s]) (.agg #[.int .i64 x.c,.int .i64 x.l,.int .i64 x.i,.int .i64 x.s])).run Try.prog W=.ok (.bool false) W:=by
 simp [go_sem]
set_option maxHeartbeats 800000 in
theorem EqualFin_same {A B:Option Addr} {n m c d:Nat} {L:List FinV} (w:World) (ha:RdE finEn w (Under w.heap.size) A n L) (hb:RdE finEn w (Under w.heap.size) B m L) (hn:n≤140737488355328) :
  Calls Try.prog 7 #[.slice A n c,.slice B m d] w (BoolB w true):=by
 obtain rfl:n=m:=by rw [←ha.1,←hb.1]
 have HA:=hide ha
 have HB:=hide hb
 clear ha hb
 have hd:((n:Int) != (n:Int))=false:=by simp
 go_enter Try.func7,Try.ntmps7
 go_wp2
 go_loopw [13] (fun i wr=>∃j q:Nat,j≤n∧i=.int .i64 j∧wr=w.drewN q) (fun i _=>n - (intOf i).toNat)
 case atStart=>exact ⟨0,0,by omega,rfl,rfl⟩
 case round =>
  obtain ⟨j,q,hj,rfl,rfl⟩:=hrel
  by_cases hlt:j < n
  ·have hl1:j < L.length:=by rw [HA.out.1];exact hlt
   obtain ⟨b1,o1,rfl,-,hc1⟩:=HA.out.get_fin (List.getElem?_eq_getElem hl1)
   obtain ⟨b2,o2,rfl,-,hc2⟩:=HB.out.get_fin (List.getElem?_eq_getElem hl1)
   generalize L[j]=y at hc1 hc2
   have hL1:∀q,(Instr.loadAt 35 (.pointer (some ⟨b1,o1+j*4,none⟩))).run Try.prog (w.drewN q)=.ok (.agg #[.int .i64 y.c,.int .i64 y.l,.int .i64 y.i,.int .i64 y.s]) (w.drewN q):=fun q=>run_loadAt_cells (w:=w.drewN q) fin_agg fin_size hc1 rfl
   have hL2:∀q,(Instr.loadAt 35 (.pointer (some ⟨b2,o2+j*4,none⟩))).run Try.prog (w.drewN q)=.ok (.agg #[.int .i64 y.c,.int .i64 y.l,.int .i64 y.i,.int .i64 y.s]) (w.drewN q):=fun q=>run_loadAt_cells (w:=w.drewN q) fin_agg fin_size hc2 rfl
   have hne:=fun W=>neq_fin y W
   clear hc1 hc2 hl1
   go_wp2
   refine wp_region_quiet_lit (by kernel_rfl) (by kernel_rfl) ?_
   iterate 3 (quiet_step (fail))
   refine Go.BigFrame.wpQuiet_want rfl (fun K hK=>?_)
   refine quietL 35 (.tmp 18) rfl _ _ rfl (by rintro _ ⟨n',rfl⟩;rw [World.drewN_drewN];exact hL1 _) (hK _ ?_)
   clear hK K
   iterate 3 (quiet_step (fail))
   refine Go.BigFrame.wpQuiet_want rfl (fun K hK=>?_)
   refine quietL 35 (.tmp 22) rfl _ _ rfl (by rintro _ ⟨n',rfl⟩;rw [World.drewN_drewN];exact hL2 _) (hK _ ?_)
   clear hK K
   iterate 1 (quiet_step (fail))
   refine wpQuiet_nil ?_
   rintro _ ⟨nq,rfl⟩
   go_wp2
   go_roundw
   case rel=>exact ⟨j+1,_,by omega,by go_num,rfl⟩
   case measure=>simp [intOf];omega
  ·obtain rfl:j=n:=by omega
   go_wp2
   go_ret
   exact BoolB.of (below_drewN (below_self w) _)
end Go.Proofs.Ytmhiohnkjpglfaa

namespace Go.Proofs.Ytmhiohnkjpglfaa
open Go.RowKit Go.Shelf Plain

def has4 (x:NodV):Bool:=decide (x.att.h / 4 % 2=1)
end Go.Proofs.Ytmhiohnkjpglfaa

namespace Go.Proofs.Ytmhiohnkjpglfaa
open Go.RowKit Go.Shelf Plain

def copI (up:List NodV) (e:EntV):Bool:=has4 (nodAt up e.ino)
def wantI (up:List NodV) (rs:List Bool) (i:Int):Int:=if (nodAt up i).k=1∧rs[(i - 1).toNat]?=some true∧(nodAt up i).ents.any (copI up)=true then 121 else 0
def badI (up:List NodV) (rs:List Bool) (i:Nat) (x:NodV) (r:Bool):Bool:=(r||(decide (i=1∨i=2)&&decide (x.k=1)))&&decide (x.p≠wantI up rs ((i:Int)+1))
def oneI (up:List NodV) (rs:List Bool) (i:Nat):List FinV:=match up[i]?,rs[i]? with
 | some x,some r=>if badI up rs i x r=true then [⟨18,0,(i:Int)+1,-1⟩] else []
 | _,_=>[]
def findI (up:List NodV) (rs:List Bool) (n:Nat):List FinV:=(List.range n).flatMap (oneI up rs)
theorem findI_succ (up:List NodV) (rs:List Bool) (n:Nat):findI up rs (n+1)=findI up rs n++oneI up rs n:=by
 unfold findI
 rw [List.range_succ,List.flatMap_append]
 simp
theorem oneI_is {up:List NodV} {rs:List Bool} {i:Nat} {x:NodV} {r b:Bool} (hx:up[i]?=some x) (hr:rs[i]?=some r) (hb:badI up rs i x r=b):oneI up rs i=if b=true then [⟨18,0,(i:Int)+1,-1⟩] else []:=by
 unfold oneI
 rw [hx,hr]
 simp only [hb]
theorem oneI_len (up:List NodV) (rs:List Bool) (i:Nat):(oneI up rs i).length≤1:=by
 unfold oneI
 split
 ·split <;> simp
 ·simp
theorem findI_len (up : List NodV) (rs : List Bool) : ∀ n, (findI up rs n).length ≤ n
 | 0=>by simp [findI]
 | n+1=>by
  have h1:=findI_len up rs n
  have h2:=oneI_len up rs n
  rw [findI_succ,List.length_append]
  omega
theorem wantI_no {up:List NodV} (rs:List Bool) {i:Int} (h:(nodAt up i).k≠1):wantI up rs i=0:=by
 unfold wantI
 rw [if_neg (fun hh=>h hh.1)]
theorem wantI_is {up:List NodV} {rs:List Bool} {i:Int} {r b:Bool} (hk:(nodAt up i).k=1) (hr:rs[(i - 1).toNat]?=some r) (hb:(nodAt up i).ents.any (copI up)=b):wantI up rs i=if r=true∧b=true then 121 else 0:=by
 unfold wantI
 rw [hr,hb]
 simp [hk]
end Go.Proofs.Ytmhiohnkjpglfaa

namespace Go.Proofs.Ytmhiohnkjpglfaa
open Go.RowKit Go.Shelf Plain

def Two (B lo:Nat) (w:World) (b:Nat):Prop:=b < B∨(lo≤b∧b < w.heap.size)
end Go.Proofs.Ytmhiohnkjpglfaa

