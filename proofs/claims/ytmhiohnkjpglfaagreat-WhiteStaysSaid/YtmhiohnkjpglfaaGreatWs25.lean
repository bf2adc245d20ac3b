import Derived.Test.YtmhiohnkjpglfaaGreatWs18
import Derived.Test.YtmhiohnkjpglfaaGreatWs7
import Derived.Test.YtmhiohnkjpglfaaGreatWs24
import Derived.Test.YtmhiohnkjpglfaaGreatWs23
import Derived.Test.YtmhiohnkjpglfaaGreatWs16
import Derived.Test.YtmhiohnkjpglfaaGreatWs5
import Derived.Test.YtmhiohnkjpglfaaGreatWs10

namespace Go.Proofs.YtmhiohnkjpglfaaGreat
open Go.RowKit Plain

def UpV (l:List WayV):Prop:=∀(j:Nat) (y:WayV),l[j]?=some y→(j=0→y.up = -1∧y.ino=1)∧(0 < j→∃p:Nat,y.up=(p:Int)∧p < j)
theorem UpV.snoc {l:List WayV} {p:Nat} {i:Int} {nm:List UInt8} (h:UpV l) (hp:p < l.length):UpV (l++[⟨i,p,nm⟩]):=by
 intro j y hy
 by_cases hj:j < l.length
 ·rw [List.getElem?_append_left hj] at hy
  exact h j y hy
 ·have hj2:j=l.length:=by
   have:=(List.getElem?_eq_some_iff.1 hy).1
   simp at this
   omega
  subst hj2
  simp at hy
  subst hy
  exact ⟨fun h0=>by omega,fun _=>⟨p,rfl,hp⟩⟩
theorem one_upv {dir:Int} {p:Nat} {s:StW} {x:EntV×Nat} (h:UpV s.1∧p < s.1.length):UpV (oneW dir p s x).1∧p < (oneW dir p s x).1.length:=by
 unfold oneW
 split
 ·exact h
 ·exact ⟨h.1.snoc h.2,by simp;omega⟩
theorem visit_upv {ns:List NodV} {p:Nat} {s:StW} (h:UpV s.1):UpV (visitW ns p s).1:=by
 unfold visitW
 cases hy:s.1[p]? with
 | none=>exact h
 | some y=>exact (foldl_keep (P:=fun s:StW=>UpV s.1∧p < s.1.length) _ _ ⟨h,(List.getElem?_eq_some_iff.1 hy).1⟩ (fun _ _ _ hs=>one_upv hs)).1
theorem run_upv {ns : List NodV} : ∀ (f p : Nat) (s : StW), UpV s.1 → UpV (runW ns f p s).1
 | 0,_,_,h=>h
 | f+1,p,s,h=>by
  unfold runW
  split
  ·exact run_upv f (p+1) _ (visit_upv h)
  ·exact h
theorem walk_upv (ns:List NodV):UpV (walkW ns [1]).1:=by
 have e:walkW ns [1]=rootW ns ([],[]) 1:=rfl
 rw [e]
 unfold rootW
 split
 ·refine run_upv _ _ _ ?_
  intro j y hy
  have hj:j=0:=by
   have:=(List.getElem?_eq_some_iff.1 hy).1
   simpa using this
  subst hj
  simp at hy
  subst hy
  exact ⟨fun _=>⟨rfl,rfl⟩,fun h=>by omega⟩
 ·intro j y hy
  simp at hy
theorem tree_succ (up:List NodV) (ls:List (List NodV)) {l:List WayV} {j:Nat} {y:WayV} (h:l[j]?=some y):treeV up ls (l.take (j+1))=treeV up ls (l.take j)++[wayView up ls (treeV up ls (l.take j)) y]:=by
 unfold treeV
 rw [List.take_add_one,h,Option.toList_some,List.foldl_append]
 rfl
theorem tree_take (up : List NodV) (ls : List (List NodV)) (l : List WayV) : ∀ j, (treeV up ls (l.take j)).length = (l.take j).length
 | 0=>by simp [treeV]
 | j+1=>by
  by_cases hj:j < l.length
  ·rw [tree_succ up ls (List.getElem?_eq_getElem hj),List.length_append,tree_take up ls l j]
   simp
   omega
  ·rw [List.take_of_length_le (by omega),←List.take_of_length_le (l:=l) (i:=j) (by omega)]
   have:=tree_take up ls l j
   rw [List.take_of_length_le (by omega)] at this ⊢
   exact this
theorem tree_len (up:List NodV) (ls:List (List NodV)) (l:List WayV):(treeV up ls l).length=l.length:=by
 have:=tree_take up ls l l.length
 rwa [List.take_of_length_le (Nat.le_refl _)] at this
theorem rootV_len (up:List NodV) (ls:List (List NodV)):(rootV up ls).2.length≤ls.length:=by
 unfold rootV
 dsimp only
 split
 ·simp
 ·exact rootsL_len ls 0
theorem way_few {up:List NodV} {ls:List (List NodV)} {vs:List ViewV} {x:WayV} (h:∀v∈vs,v.2.length≤ls.length):(wayView up ls vs x).2.length≤ls.length:=by
 unfold wayView
 split
 ·exact rootV_len up ls
 ·have h1:=partV_len up ls ((vs[x.up.toNat]?).getD (0,[])).2 x.ino x.name
  have h2:((vs[x.up.toNat]?).getD (0,[])).2.length≤ls.length:=by
   cases hv:vs[x.up.toNat]? with
   | none=>simp
   | some v=>exact h v (List.mem_of_getElem? hv)
  dsimp only
  omega
theorem tree_few (up:List NodV) (ls:List (List NodV)) (l:List WayV):∀v∈treeV up ls l,v.2.length≤ls.length:=by
 unfold treeV
 refine foldl_keep (P:=fun vs:List ViewV=>∀v∈vs,v.2.length≤ls.length) l [] (fun _ h=>by cases h) (fun vs x _ h v hv=>?_)
 rcases List.mem_append.1 hv with h1|h1
 ·exact h v h1
 ·rw [List.mem_singleton] at h1
  rw [h1]
  exact way_few h
end Go.Proofs.YtmhiohnkjpglfaaGreat

namespace Go.Proofs.YtmhiohnkjpglfaaGreat
open Go.RowKit Go.Shelf Plain

theorem hcel {w w':World} {b o B:Nat} {p:Int×Int} (h:∀(j:Nat) (v:Value),(prC p)[j]?=some v→w.cell? ⟨b,o+j,none⟩=some v) (hb:Below B w w') (hlt:b < B):∀(j:Nat) (v:Value),(prC p)[j]?=some v→w'.cell? ⟨b,o+j,none⟩=some v:=fun j v hv=>(hb.cell (p:=⟨b,o+j,none⟩) hlt).trans (h j v hv)
end Go.Proofs.YtmhiohnkjpglfaaGreat

namespace Go.Proofs.YtmhiohnkjpglfaaGreat
open Go.RowKit
variable {α β : Type} {E : Enc α}

theorem append_stays {P : Program} {w w' : World} {base : Nat} {t ty e : TypeId} {i : TypeInfo} {z : Value} {size k : Nat} (ht : P.underlying t = some (.slice e)) (hi : P.info? e = some i) (hz : i.zero = some z) (hsz : i.size = size) (hby : i.bytes = k)
  {v v':Value} {n:Nat} {xs:List Value} (hown:w.ownsRow base e size v n xs) {a:Addr} {m c:Nat} (hr:(Builtin.append_ #[t,t] ty #[v,.slice (some a) m c]).run P w=.ok v' w') {news:List Value} (hl:news.length=m*size)
  (hnews:∀j u,news[j]?=some u→w.cell? (a.add j)=some u) (h1:∀u∈news,u.oneCell'=true) (hbytes:(n+m)*k≤140737488355328) (hnm:n+m≤140737488355328) :
  v'.ownBlock=v.ownBlock∨Below w.heap.size w w':=by
 subst hsz
 subst hby
 rcases hown.2 with ⟨rfl,rfl⟩|⟨g,cap,cur,rfl,hbg,hg,hnc,hcm,hcs,htake⟩
 ·by_cases hm:m=0
  ·subst hm
   have h2:(Builtin.append_ #[t,t] ty #[.slice none 0 0,.slice (some a) 0 c]).run P w=.ok (.slice none 0 0) w:=by
    simp [Builtin.append_,run_underlying ht,sizeOf,typeInfo,hi,Builtin.lenOf,Builtin.firstCells,loadCells,loadCellsFrom]
   rw [h2] at hr
   cases hr
   exact .inl rfl
  ·have h2:=run_append_nil (P:=P) w t ty e i z ht hi hz a m c news hl hnews (by omega) (by omega) (by have hb:=hbytes;simp only [Nat.zero_add] at hb;omega)
   rw [h2] at hr
   cases hr
   exact .inr ((Below.refl w.heap.size w).drew.alloc (Nat.le_refl _) _)
 ·by_cases hroom:n+m≤cap
  ·have hfit:n*i.size+news.length≤cur.size:=by rw [hl,hcs,←Nat.add_mul];exact Nat.mul_le_mul_right _ hroom
   have h2:=run_append_room (P:=P) w t ty e i ht hi g n cap cur hg a m c news hl hnews h1 hroom hfit
   rw [h2] at hr
   cases hr
   exact .inl rfl
  ·have holds:∀j u,xs[j]?=some u→w.cell? ((⟨g,0,none⟩:Addr).add j)=some u:=hown.cells (g:=g) rfl
   have h2:=run_append_grow (P:=P) w t ty e i z ht hi hz ⟨g,0,none⟩ n cap xs hown.1 holds a m c news hl hnews (by omega) (by omega) (growslice_fits (by omega) hbytes)
   rw [h2] at hr
   cases hr
   exact .inr ((Below.refl w.heap.size w).drew.alloc (Nat.le_refl _) _)
theorem add_flat (g j:Nat):(⟨g,0,none⟩:Addr).add j=⟨g,j,none⟩:=by
 unfold Addr.add
 split
 ·rename_i h0;subst h0;rfl
 ·simp
theorem run_append_OwK [Tags] {P : Program} (w : World) (base : Nat) (t ty e : TypeId) (z : Value) (k : Nat) (ht : P.underlying t = some (.slice e)) (hinfo : (P.info? e).map (fun i => (i.zero, i.size, i.bytes)) = some (some z, E.k, k)) (hzs : z.cells.size = E.k) (hk : 0 < E.k)
  (A0:Option Addr) (n c0:Nat) (l0:List α) (hown:OwE E w base e A0 n c0 l0) (D:Nat→Prop) (A:Option Addr) (m c:Nat) (l1:List α) (hb:RdE E w D A m l1) (hD:∀b,D b→But w A0 b) (hm:0 < m)
  (hbytes:(n+m)*k≤140737488355328) (hnm:n+m≤140737488355328) (hbase:base≤w.heap.size) :
  ∃A' c' w',(Builtin.append_ #[t,t] ty #[.slice A0 n c0,.slice A m c]).run P w=.ok (.slice A' (n+m) c') w'∧OwE E w' base e A' (n+m) c' (l0++l1)∧Below base w w' ∧
   (∀g j u,A0=some ⟨g,0,none⟩→j < n*E.k→w.cell? ⟨g,j,none⟩=some u→w'.cell? ⟨g,j,none⟩=some u)∧w.grownBy w' (Value.slice A0 n c0).ownBlock:=by
 obtain ⟨A',c',w',hr,h2,h3⟩:=run_append_OwE (P:=P) w base t ty e z k ht hinfo hzs hk A0 n c0 l0 hown D A m c l1 hb hD hbytes hnm hbase
 obtain ⟨css,hrow,hc,hl⟩:=hown
 obtain ⟨v',w2,dss,hr2,hrow2,-,-,hgr,-⟩:=run_append_E (P:=P) w base t ty e z k ht hinfo hzs hk _ n css hrow D A m c l1 hb hbytes hnm hbase
 rw [hr] at hr2
 cases hr2
 refine ⟨A',c',w',hr,h2,h3,?_,hgr⟩
 intro g j u hA hj hu
 subst hA
 obtain ⟨i,hi,hz,hsz,hby⟩:=info_parts hinfo
 obtain ⟨b,o,ess,rfl,_,hC,hcell⟩:=hb.cells hm
 have hfl:=flat_len hC.lens
 have hfc:=flat_len hc.lens
 have hs:=append_stays (P:=P) ht hi hz hsz hby hrow hr (news:=ess.flatten) (by rw [hfl,hC.1,hb.1]) (fun j u hu=>by
  have:=hcell j u hu
  rw [←this]
  congr 1
  unfold Addr.add
  split
  ·rename_i h0;subst h0;rfl
  ·rfl) hC.ones hbytes hnm
 have hjl:j < css.flatten.length:=by rw [hfc,hc.1,hl];exact hj
 obtain ⟨x,hx⟩:∃x,css.flatten[j]?=some x:=⟨_,List.getElem?_eq_getElem hjl⟩
 have h4:=hrow.cells (g:=g) rfl j x hx
 rw [add_flat] at h4
 obtain rfl:u=x:=Option.some.inj (hu.symm.trans h4)
 rcases hs with hs|hs
 ·have h5:=hrow2.cells (g:=g) (by rw [hs];rfl) j u (by rw [List.flatten_append,List.getElem?_append_left hjl];exact hx)
  rw [add_flat] at h5
  exact h5
 ·rcases hrow.2 with ⟨h0,-⟩|⟨g',cap,cur,h0,-,hg,-⟩
  ·cases h0
  ·cases h0
   exact (hs.cell (p:=⟨g,j,none⟩) (by have:=Array.getElem?_eq_some_iff.1 hg;exact this.1)).trans hu
theorem wp_append_OwK [Tags] {P : Program} (w : World) {o : Oper} {a : Act} {K : Act → World → Prop} {Q : Exit → Act → World → Prop} (s x : Operand) (t : TypeId)
  (ho:o.op=.call {callee:=.builtin .append,args:=#[s,x],argTypes:=#[t,t]})
  (base:Nat) (e:TypeId) (z:Value) (k:Nat) (ht:P.underlying t=some (.slice e)) (hinfo:(P.info? e).map (fun i=>(i.zero,i.size,i.bytes))=some (some z,E.k,k)) (hzs:z.cells.size=E.k) (hk:0 < E.k)
  (A0:Option Addr) (n c0:Nat) (l0:List α) (hs:a.eval s=.slice A0 n c0) (hown:OwE E w base e A0 n c0 l0) (D:Nat→Prop) (A:Option Addr) (m c:Nat) (l1:List α) (hx:a.eval x=.slice A m c) (hb:RdE E w D A m l1) (hD:∀b,D b→But w A0 b) (hm:0 < m)
  (N:Nat) (hN:n+m=N) (hbytes:N*k≤140737488355328) (hnm:N≤140737488355328) (hbase:base≤w.heap.size)
  (h:∀A' c' w',OwE E w' base e A' N c' (l0++l1)→Below base w w'→(∀g j u,A0=some ⟨g,0,none⟩→j < n*E.k→w.cell? ⟨g,j,none⟩=some u→w'.cell? ⟨g,j,none⟩=some u)→w.grownBy w' (Value.slice A0 n c0).ownBlock→K (a.put o.dst (.slice A' N c')) w'):o.wp P a w K Q:=by
 subst hN
 obtain ⟨A',c',w',hr,h2,h3,h4,h5⟩:=run_append_OwK (P:=P) w base t o.type e z k ht hinfo hzs hk A0 n c0 l0 hown D A m c l1 hb hD hm hbytes hnm hbase
 unfold Oper.wp execOp
 simp only [ho,resolve,invoke,builtin,Sem.run_bind,Sem.run_pure,Result.andThen_ok,List.map_toArray,List.map_cons,List.map_nil,hs,hx,hr]
 exact h A' c' w' h2 h3 h4 h5
def KeepS (wX:World) (B b o:Nat) (vc:List Value) (W:World):Prop:=Below B wX W∧(∀k,k < wX.heap.size→k≠b→W.heap[k]?=wX.heap[k]?)∧∀k x,vc[k]?=some x→W.cell? ⟨b,o+k,none⟩=some x
theorem KeepS.start {wX:World} {B b o:Nat} {vc:List Value} (hc:∀k x,vc[k]?=some x→wX.cell? ⟨b,o+k,none⟩=some x):KeepS wX B b o vc wX.drew:=⟨(Below.refl B wX).drew,fun _ _ _=>rfl,hc⟩
theorem KeepS.on {wX W W':World} {B b o:Nat} {vc:List Value} (h:KeepS wX B b o vc W) (hb:Below W.heap.size W W') (hB:B≤wX.heap.size) (hlt:b < wX.heap.size):KeepS wX B b o vc W':=by
 have hs:=h.1.size
 exact ⟨h.1.trans (hb.mono (by omega)),fun k hk hne=>(hb.block k (by omega)).trans (h.2.1 k hk hne),fun k x hx=>(hb.cell (p:=⟨b,o+k,none⟩) (by exact Nat.lt_of_lt_of_le hlt hs)).trans (h.2.2 k x hx)⟩
theorem KeepS.row {wX W:World} {B b o g t:Nat} {vc cs:List Value} (h:KeepS wX B b o vc W) (hr:RowL wX g t cs) (hg:g≠b):RowL W g t cs:=(h.2.1 g hr.lt hg).trans hr
theorem KeepS.rd {α:Type} {E:Enc α} {wX W:World} {B b o:Nat} {vc:List Value} {D:Nat→Prop} {A:Option Addr} {n:Nat} {l:List α} (h:KeepS wX B b o vc W) (hr:RdE E wX D A n l) (hD:∀k,D k→k < wX.heap.size∧k≠b):RdE E W D A n l :=
 hr.mono (fun k hk=>h.2.1 k (hD k hk).1 (hD k hk).2) (fun _ h=>h)
theorem KeepS.grow {wX W W':World} {B b o m:Nat} {vc:List Value} (h:KeepS wX B b o vc W) (hb:Below B W W') (hg:W.grownBy W' (some b)) (hk:o+vc.length≤m) (hc:∀j u,j < m→W.cell? ⟨b,j,none⟩=some u→W'.cell? ⟨b,j,none⟩=some u):KeepS wX B b o vc W':=by
 have hs:=h.1.size
 exact ⟨h.1.trans hb,fun k hk hne=>(hg.block k (by omega) (fun e=>hne (Option.some.inj e))).trans (h.2.1 k hk hne),fun j x hx=>hc _ _ (by have:=(List.getElem?_eq_some_iff.1 hx).1;omega) (h.2.2 j x hx)⟩
theorem und_at {α:Type} {E:Enc α} {w w':World} {B C:Nat} {A:Option Addr} {n:Nat} {l:List α} (h:RdE E w (Under B) A n l) (hb:Below C w w') (hBC:B≤C):RdE E w' (Under B) A n l :=
 h.mono (fun b hb'=>hb.block b (by unfold Under at hb';omega)) (fun _ h=>h)
end Go.Proofs.YtmhiohnkjpglfaaGreat

namespace Go.Proofs.YtmhiohnkjpglfaaGreat
open Go.RowKit Go.Shelf Plain

set_option maxRecDepth 100000 in
theorem ens_size:∀w,(Go.sizeOf 61).run Tryz.prog w=.ok 1 w:=fun _=>rfl
def hdl (k:Int):Bool:=decide (k=1)||decide (k=2)||decide (k=3)
def zentM:Value:=.agg #[.int .i64 0,.int .i64 0,.string ⟨#[]⟩]
set_option maxRecDepth 100000 in
theorem entM_info:(Tryz.prog.info? 75).map (fun i=>(i.zero,i.size,i.bytes))=some (some zentM,3,32):=by kernel_rfl
set_option maxRecDepth 100000 in
set_option maxHeartbeats 800000 in
theorem CloneEnt_any {A:Option Addr} {n c:Nat} {l:List EntV} (w:World) (h:RdE entEn w (Under w.heap.size) A n l) (hn:n≤100000):Calls Tryz.prog 34 #[.slice A n c] w (fun e w'=>∃A' c',e=.returned (.slice A' n c')∧OwE entEn w' w.heap.size 75 A' n c' l∧Below w.heap.size w w'):=by
 have H:=hide h
 cases A with
 | none =>
  have h0:n=0:=by
   rcases Nat.eq_zero_or_pos n with h0|h0
   ·exact h0
   ·obtain ⟨_,_,e,_⟩:=h.2 h0;cases e
  subst h0
  obtain rfl:l=[]:=List.eq_nil_of_length_eq_zero h.1
  have hnil:=fun W=>Lib.run_eql_slice_nil (P:=Tryz.prog) W 61 75 none 0 c 0 0 Tryz.underlying61
  clear h
  go_enter Tryz.func34,Tryz.ntmps34
  go_wp2
  go_ret
  exact ⟨none,0,rfl,OwE.nil_ _ _ _ _,below_self w⟩
 | some a =>
  have hnil:=fun W=>Lib.run_eql_slice_nil (P:=Tryz.prog) W 61 75 (some a) n c 0 0 Tryz.underlying61
  clear h
  go_enter Tryz.func34,Tryz.ntmps34
  go_wp2_with (at_builtin;refine wpList_append_OwE (E:=entEn) _ rfl (.tmp 5) (.tmp 6) 61 rfl w.heap.size 75 zentM 32 Tryz.underlying61 entM_info rfl (by decide) (some ⟨w.heap.size,0,none⟩) 0 0 [] rfl (OwE.empty entEn w 75) (Under w.heap.size) (some a) n c l rfl (und_at H.out (below_new (below_self w) _) (Nat.le_refl _)) (fun b hb=>⟨⟨by unfold Under at hb;simp;omega,fun _ _ _ _=>rfl⟩,fun a' ha=>by cases ha;exact Nat.ne_of_lt hb⟩) n (by omega) (by omega) (by omega) (by simp) ?_;intro A5 c5 w5 ho5 hb5;have HO5:=hide ho5;have HB5:=hide hb5;clear ho5 hb5)
  go_ret
  exact ⟨A5,c5,rfl,HO5.out,(below_new (below_self w) _).trans HB5.out⟩
end Go.Proofs.YtmhiohnkjpglfaaGreat

namespace Go.Proofs.YtmhiohnkjpglfaaGreat
open Go.RowKit Plain

theorem sum_le {α : Type} {f g : α → Nat} : ∀ {l : List α}, (∀ x ∈ l, f x ≤ g x) → (l.map f).sum ≤ (l.map g).sum
 | [],_=>Nat.le_refl _
 | x::r,h=>by
  simp only [List.map_cons,List.sum_cons]
  exact Nat.add_le_add (h x List.mem_cons_self) (sum_le fun y hy=>h y (List.mem_cons_of_mem _ hy))
theorem sum_eq {α:Type} {f g:α→Nat} {l:List α} (h:∀x∈l,f x=g x):(l.map f).sum=(l.map g).sum:=Nat.le_antisymm (sum_le fun x hx=>Nat.le_of_eq (h x hx)) (sum_le fun x hx=>Nat.le_of_eq (h x hx).symm)
def kidsW (ns:List NodV) (i:Int):List EntV:=(nodAt ns i).ents.filter (fun e=>isDir ns e.ino)
theorem dirs_kids (ns:List NodV) (l:List EntV):(dirsOf ns l).map (fun x=>x.1)=l.filter (fun e=>isDir ns e.ino):=map_filter_zip (fun e=>isDir ns e.ino) l 0
theorem fold_all (d : Int) (p : Nat) : ∀ (xs : List (EntV × Nat)) (s : StW), (xs.foldl (oneW d p) s).2 = [] → (xs.foldl (oneW d p) s).1 = s.1 ++ xs.map (fun x => ⟨x.1.ino, p, x.1.name⟩)
 | [],s,_=>by simp
 | x::r,s,h=>by
  simp only [List.foldl_cons] at h ⊢
  have h1:=fold_all d p r _ h
  rw [h1]
  cases hc:cameW s.1 x.1.ino with
  | true =>
   exfalso
   refine one_more d p [] [] r (oneW d p s x) ?_ h
   unfold oneW
   simp [hc]
  | false =>
   have h2:(oneW d p s x).1=s.1++[⟨x.1.ino,p,x.1.name⟩]:=by unfold oneW;simp [hc]
   rw [h2]
   simp
theorem fold_nil (d:Int) (p:Nat) (xs:List (EntV×Nat)) (s:StW) (h:(xs.foldl (oneW d p) s).2=[]):s.2=[]:=by
 cases hs:s.2 with
 | nil=>rfl
 | cons a r=>exact absurd h (one_more d p [] [] xs s (by rw [hs];simp))
theorem visit_nil {ns:List NodV} {p:Nat} {s:StW} (h:(visitW ns p s).2=[]):s.2=[]:=by
 unfold visitW at h
 split at h
 ·exact h
 ·exact fold_nil _ _ _ _ h
theorem visit_all {ns:List NodV} {p:Nat} {s:StW} {y:WayV} (hy:s.1[p]?=some y) (h:(visitW ns p s).2=[]):(visitW ns p s).1=s.1++(kidsW ns y.ino).map (fun e=>⟨e.ino,p,e.name⟩):=by
 unfold visitW at h ⊢
 rw [hy] at h ⊢
 rw [fold_all _ _ _ _ h]
 congr 1
 unfold kidsW
 rw [←dirs_kids,List.map_map]
 rfl
theorem run_nil {ns : List NodV} : ∀ (n p : Nat) (s : StW), (runW ns n p s).2 = [] → s.2 = []
 | 0,_,_,h=>h
 | n+1,p,s,h=>by
  unfold runW at h
  split at h
  ·exact visit_nil (run_nil n _ _ h)
  ·exact h
def wgt (ns : List NodV) : Nat → Int → Nat
 | 0,_=>0
 | f+1,i=>1+((kidsW ns i).map (fun e=>wgt ns f e.ino)).sum
theorem wgt_mono (ns : List NodV) : ∀ (f : Nat) (i : Int), wgt ns f i ≤ wgt ns (f + 1) i
 | 0,i=>Nat.zero_le _
 | f+1,i=>by
  unfold wgt
  exact Nat.add_le_add_left (sum_le fun e _=>wgt_mono ns f e.ino) 1
theorem wgt_le (ns:List NodV) (f:Nat) (i:Int):wgt ns f i≤1+((kidsW ns i).map (fun e=>wgt ns f e.ino)).sum:=wgt_mono ns f i
theorem run_pot {ns : List NodV} (f : Nat) : ∀ (n p : Nat) (s : StW), p ≤ s.1.length → OkW ns s.1 → ns.length ≤ p + n → (runW ns n p s).2 = [] → p + ((s.1.drop p).map (fun y => wgt ns f y.ino)).sum ≤ (runW ns n p s).1.length
 | 0,p,s,hp,ho,hn,_=>by
  have:=ho.le
  rw [List.drop_eq_nil_of_le (by omega)]
  simpa [runW] using hp
 | n+1,p,s,hp,ho,hn,h=>by
  unfold runW at h ⊢
  by_cases hlt:p < s.1.length
  ·rw [if_pos hlt] at h ⊢
   obtain ⟨y,hy⟩:∃y,s.1[p]?=some y:=⟨_,List.getElem?_eq_getElem hlt⟩
   have hv:=visit_all hy (run_nil n _ _ h)
   have hl:p+1≤(visitW ns p s).1.length:=by rw [hv,List.length_append];omega
   have ih:=run_pot f n (p+1) (visitW ns p s) hl (visit_ok ho) (by omega) h
   refine Nat.le_trans ?_ ih
   rw [hv,List.drop_append_of_le_length (by omega),List.map_append,List.sum_append]
   have hd:s.1.drop p=y::s.1.drop (p+1):=by
    rw [List.drop_eq_getElem_cons hlt]
    congr 1
    exact (List.getElem?_eq_some_iff.1 hy).2
   rw [hd,List.map_cons,List.sum_cons,List.map_map]
   have h2:=wgt_le ns f y.ino
   have h3:((kidsW ns y.ino).map ((fun y:WayV=>wgt ns f y.ino) ∘ fun e=>(⟨e.ino,p,e.name⟩:WayV))).sum=((kidsW ns y.ino).map (fun e=>wgt ns f e.ino)).sum:=rfl
   rw [h3]
   omega
  ·rw [if_neg hlt]
   rw [List.drop_eq_nil_of_le (by omega)]
   simpa using hp
theorem run_pot_at {ns : List NodV} (f : Nat) : ∀ (n p : Nat) (s : StW), p ≤ s.1.length → OkW ns s.1 → ns.length ≤ p + n → (runW ns n p s).2 = [] → ∀ k y, p ≤ k → (runW ns n p s).1[k]? = some y → wgt ns f y.ino + k ≤ (runW ns n p s).1.length
 | 0,p,s,hp,ho,hn,_,k,y,hk,hy=>by
  have:=ho.le
  have h1:=(List.getElem?_eq_some_iff.1 hy).1
  simp only [runW] at h1
  omega
 | n+1,p,s,hp,ho,hn,h,k,y,hk,hy=>by
  by_cases hkp:k=p
  ·subst hkp
   have h1:=run_pot f (n+1) k s hp ho hn h
   by_cases hlt:k < s.1.length
   ·have h2:s.1[k]?=some y:=by
     obtain ⟨t,ht⟩:=run_pre (ns:=ns) (n+1) k s
     rw [←ht,List.getElem?_append_left hlt] at hy
     exact hy
    rw [List.drop_eq_getElem_cons hlt,List.map_cons,List.sum_cons,(List.getElem?_eq_some_iff.1 h2).2] at h1
    omega
   ·unfold runW at hy
    rw [if_neg hlt] at hy
    exact absurd (List.getElem?_eq_some_iff.1 hy).1 hlt
  ·unfold runW at h hy ⊢
   by_cases hlt:p < s.1.length
   ·rw [if_pos hlt] at h hy ⊢
    obtain ⟨z,hz⟩:∃z,s.1[p]?=some z:=⟨_,List.getElem?_eq_getElem hlt⟩
    have hv:=visit_all hz (run_nil n _ _ h)
    exact run_pot_at f n (p+1) (visitW ns p s) (by rw [hv,List.length_append];omega) (visit_ok ho) (by omega) h k y (by omega) hy
   ·rw [if_neg hlt] at hy
    have:=(List.getElem?_eq_some_iff.1 hy).1
    omega
theorem run_kids {ns : List NodV} : ∀ (n p : Nat) (s : StW), p ≤ s.1.length → OkW ns s.1 → ns.length ≤ p + n → (runW ns n p s).2 = [] → ∀ k y e, p ≤ k → (runW ns n p s).1[k]? = some y → e ∈ kidsW ns y.ino → ∃ j, k < j ∧ (runW ns n p s).1[j]? = some ⟨e.ino, k, e.name⟩
 | 0,p,s,hp,ho,hn,_,k,y,e,hk,hy,_=>by
  have:=ho.le
  have h1:=(List.getElem?_eq_some_iff.1 hy).1
  simp only [runW] at h1
  omega
 | n+1,p,s,hp,ho,hn,h,k,y,e,hk,hy,he=>by
  unfold runW at h hy ⊢
  by_cases hlt:p < s.1.length
  ·rw [if_pos hlt] at h hy ⊢
   obtain ⟨z,hz⟩:∃z,s.1[p]?=some z:=⟨_,List.getElem?_eq_getElem hlt⟩
   have hv:=visit_all hz (run_nil n _ _ h)
   by_cases hkp:k=p
   ·subst hkp
    have hpre:=run_pre (ns:=ns) n (k+1) (visitW ns k s)
    have hzy:z=y:=by
     have h1:(visitW ns k s).1[k]?=some z:=by rw [hv,List.getElem?_append_left hlt];exact hz
     have h2:=pre_get hpre h1
     rw [hy] at h2
     exact (Option.some.inj h2).symm
    subst hzy
    obtain ⟨q,hq,hqe⟩:=List.mem_iff_getElem.1 he
    refine ⟨s.1.length+q,by omega,pre_get hpre ?_⟩
    rw [hv,List.getElem?_append_right (by omega),Nat.add_sub_cancel_left,List.getElem?_map,List.getElem?_eq_getElem hq,hqe]
    rfl
   ·exact run_kids n (p+1) (visitW ns p s) (by rw [hv,List.length_append];omega) (visit_ok ho) (by omega) h k y e (by omega) hy he
  ·rw [if_neg hlt] at hy
   have:=(List.getElem?_eq_some_iff.1 hy).1
   omega
def TreeL (ns:List NodV):Prop:=(walkW ns [1]).2=[]
def inW (ns:List NodV) (i:Int):Prop:=∃y∈(walkW ns [1]).1,y.ino=i
theorem walk_one (ns:List NodV):walkW ns [1]=rootW ns ([],[]) 1:=rfl
theorem root_run {ns:List NodV} (h:isDir ns 1=true):walkW ns [1]=runW ns ns.length 0 ([⟨1,-1,[]⟩],[]):=by
 rw [walk_one]
 unfold rootW
 rw [if_pos (by simp [h,cameW])]
 rfl
theorem in_dir {ns:List NodV} {i:Int} (h:inW ns i):isDir ns 1=true:=by
 obtain ⟨y,hy,-⟩:=h
 cases hd:isDir ns 1 with
 | true=>rfl
 | false =>
  rw [walk_one] at hy
  unfold rootW at hy
  rw [hd] at hy
  simp at hy
theorem in_root {ns:List NodV} (h:isDir ns 1=true):inW ns 1:=by
 refine ⟨⟨1,-1,[]⟩,?_,rfl⟩
 rw [root_run h]
 exact (run_pre (ns:=ns) ns.length 0 ([⟨1,-1,[]⟩],[])).subset (by simp)
theorem in_isDir {ns:List NodV} {i:Int} (h:inW ns i):isDir ns i=true:=by
 obtain ⟨y,hy,rfl⟩:=h
 exact (walk_ok ns [1]).1 y hy
def wt (ns:List NodV) (i:Int):Nat:=wgt ns 24 i
theorem wgt_stable {ns : List NodV} (ht : TreeL ns) : ∀ (m k : Nat) (y : WayV), (walkW ns [1]).1[k]? = some y → (walkW ns [1]).1.length ≤ k + m → wgt ns (m + 1) y.ino = wgt ns m y.ino
 | 0,k,y,hy,hk=>by
  have:=(List.getElem?_eq_some_iff.1 hy).1
  omega
 | m+1,k,y,hy,hk=>by
  have hd:=in_dir ⟨y,List.mem_of_getElem? hy,rfl⟩
  unfold wgt
  congr 1
  refine sum_eq fun e he=>?_
  have h1:=ht
  unfold TreeL at h1
  rw [root_run hd] at h1 hy
  obtain ⟨j,hj,hje⟩:=run_kids ns.length 0 ([⟨1,-1,[]⟩],[]) (by simp) ((OkW.nil_ ns).snoc (x:=⟨1,-1,[]⟩) hd rfl) (by omega) h1 k y e (Nat.zero_le _) hy he
  rw [←root_run hd] at hje
  exact wgt_stable ht m j ⟨e.ino,k,e.name⟩ hje (by omega)
theorem tree_wt {ns:List NodV} {i:Int} (ht:TreeL ns) (hl:ns.length≤24) (h:inW ns i):wt ns i=1+((kidsW ns i).map (fun e=>wt ns e.ino)).sum∧wt ns i≤24∧∀e∈kidsW ns i,inW ns e.ino:=by
 have hd:=in_dir h
 obtain ⟨y,hy,rfl⟩:=h
 obtain ⟨k,hk,hky⟩:=List.mem_iff_getElem.1 hy
 have hyk:(walkW ns [1]).1[k]?=some y:=by rw [List.getElem?_eq_getElem hk,hky]
 have hwl:=(walk_ok ns [1]).le
 have h1:=ht
 unfold TreeL at h1
 have ho:=(OkW.nil_ ns).snoc (x:=⟨1,-1,[]⟩) hd rfl
 refine ⟨?_,?_,fun e he=>?_⟩
 ·have:=wgt_stable ht 24 k y hyk (by omega)
  unfold wt
  rw [←this]
  rfl
 ·have h2:=hyk
  rw [root_run hd] at h1 h2
  have:=run_pot_at 24 ns.length 0 ([⟨1,-1,[]⟩],[]) (by simp) ho (by omega) h1 k y (Nat.zero_le _) h2
  rw [←root_run hd] at this
  unfold wt
  omega
 ·have h2:=hyk
  rw [root_run hd] at h1 h2
  obtain ⟨j,-,hj⟩:=run_kids ns.length 0 ([⟨1,-1,[]⟩],[]) (by simp) ho (by omega) h1 k y e (Nat.zero_le _) h2 he
  rw [←root_run hd] at hj
  exact ⟨_,List.mem_of_getElem? hj,rfl⟩
theorem wt_pos {ns:List NodV} (i:Int):1≤wt ns i:=by unfold wt wgt;omega
end Go.Proofs.YtmhiohnkjpglfaaGreat

