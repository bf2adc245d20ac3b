import Derived.Test.YtnhegahpfacdgaaGreatRt17
import Derived.Test.YtnhegahpfacdgaaGreatRt9
import Derived.Test.YtnhegahpfacdgaaGreatRt10
import Derived.Test.YtnhegahpfacdgaaGreatRt1
import Derived.Lib.SlicesCompact
import Derived.Sort.Row
import Derived.Sort.OwnSorted
import Derived.Lib.RowBridge
import Derived.Test.YtnhegahpfacdgaaGreatRt4
import Derived.Test.YtnhegahpfacdgaaGreatRt24
import Derived.Test.YtnhegahpfacdgaaGreatRt23
import Derived.Test.YtnhegahpfacdgaaGreatRt25
import Derived.Test.YtnhegahpfacdgaaGreatRt2
import Derived.Test.YtnhegahpfacdgaaGreatRt18

namespace Go.Proofs.YtnhegahpfacdgaaGreat
open Go.RowKit Go.Shelf Plain

theorem RVRoot_e {g:GeoQ} {AU AL:Option Addr} {nU cU nL cL B:Nat} {up:List NodV} {ls:List (List NodV)} {V:ViewV} (hV:rootV up ls=V) (w:World) (hu:RdE nodEn w (Under B) AU nU up) (h:RdE layEn w (Under B) AL nL ls) (hB:B≤w.heap.size) (hF:FewL ls) (hup:FewU up):Calls Tryz.prog 46 #[.agg (stkC g (.slice AU nU cU) (.slice AL nL cL)).toArray] w (ViewF w.heap.size w V):=by rw [←hV];exact RVRoot_any w hu h hB hF hup
end Go.Proofs.YtnhegahpfacdgaaGreat

namespace Go.Proofs.YtnhegahpfacdgaaGreat
open Go.RowKit Go.Shelf Plain

theorem hcell {w w':World} {b o:Nat} {cs:List Value} (h:∀k x,cs[k]?=some x→w.cell? ⟨b,o+k,none⟩=some x) {B:Nat} (hb:Below B w w') (hlt:b < B):∀k x,cs[k]?=some x→w'.cell? ⟨b,o+k,none⟩=some x:=fun k x hx=>(hb.cell (p:=⟨b,o+k,none⟩) hlt).trans (h k x hx)
theorem view_get {w:World} {D:Nat→Prop} {A:Option Addr} {n j:Nat} {l:List ViewV} {v:ViewV} (h:RdE viewEn w D A n l) (hv:l[j]?=some v):∃b o A2 c2,A=some ⟨b,o,none⟩∧D b∧(∀k x,(viwC v.1 (.slice A2 v.2.length c2))[k]?=some x→w.cell? ⟨b,o+j*2+k,none⟩=some x)∧RdE prEn w D A2 v.2.length v.2:=by
 have hj:j < l.length:=(List.getElem?_eq_some_iff.1 hv).1
 obtain ⟨b,o,e,hD,hc⟩:=h.2 (by have:=h.1;omega)
 obtain ⟨cs,⟨A2,c2,rfl,hr⟩,hcs⟩:=hc j v hv
 exact ⟨b,o,A2,c2,e,hD,fun k x hx=>by have h1:=hcs k x hx;rw [show viewEn.k=2 from rfl,←Nat.add_assoc] at h1;exact h1,hr⟩
end Go.Proofs.YtnhegahpfacdgaaGreat

namespace Go.Proofs.YtnhegahpfacdgaaGreat
open Go.RowKit
variable {α β : Type} {E : Enc α}

theorem append_stays {P : Program} {w w' : World} {base : Nat} {t ty e : TypeId} {i : TypeInfo} {z : Value} {size k : Nat} (ht : P.underlying t = some (.slice e)) (hi : P.info? e = some i) (hz : i.zero = some z) (hsz : i.size = size) (hby : i.bytes = k)
  {v v':Value} {n:Nat} {xs:List Value} (hown:w.ownsRow base e size v n xs) {a:Addr} {m c:Nat} (hr:(Builtin.append_ #[t,t] ty #[v,.slice (some a) m c]).run P w=.ok v' w') {news:List Value} (hl:news.length=m*size)
  (hnews:∀j u,news[j]?=some u→w.cell? (a.add j)=some u) (h1:∀u∈news,u.oneCell'=true) (hbytes:(n+m)*k≤140737488355328) (hnm:n+m≤140737488355328) :
  v'.ownBlock=v.ownBlock∨Below w.heap.size w w':=by
 subst hsz
 subst hby
 rcases hown.2 with ⟨rfl,rfl⟩|⟨g,cap,cur,rfl,hbg,hg,hnc,hcm,hcs,htake⟩
 ·by_cases hm:m=0
  ·subst hm
   have h2:(Builtin.append_ #[t,t] ty #[.slice none 0 0,.slice (some a) 0 c]).run P w=.ok (.slice none 0 0) w:=by
    simp [Builtin.append_,run_underlying ht,sizeOf,typeInfo,hi,Builtin.lenOf,Builtin.firstCells,loadCells,loadCellsFrom]
   rw [h2] at hr
   cases hr
   exact .inl rfl
  ·have h2:=run_append_nil (P:=P) w t ty e i z ht hi hz a m c news hl hnews (by omega) (by omega) (by have hb:=hbytes;simp only [Nat.zero_add] at hb;omega)
   rw [h2] at hr
   cases hr
   exact .inr ((Below.refl w.heap.size w).drew.alloc (Nat.le_refl _) _)
 ·by_cases hroom:n+m≤cap
  ·have hfit:n*i.size+news.length≤cur.size:=by rw [hl,hcs,←Nat.add_mul];exact Nat.mul_le_mul_right _ hroom
   have h2:=run_append_room (P:=P) w t ty e i ht hi g n cap cur hg a m c news hl hnews h1 hroom hfit
   rw [h2] at hr
   cases hr
   exact .inl rfl
  ·have holds:∀j u,xs[j]?=some u→w.cell? ((⟨g,0,none⟩:Addr).add j)=some u:=hown.cells (g:=g) rfl
   have h2:=run_append_grow (P:=P) w t ty e i z ht hi hz ⟨g,0,none⟩ n cap xs hown.1 holds a m c news hl hnews (by omega) (by omega) (growslice_fits (by omega) hbytes)
   rw [h2] at hr
   cases hr
   exact .inr ((Below.refl w.heap.size w).drew.alloc (Nat.le_refl _) _)
theorem add_flat (g j:Nat):(⟨g,0,none⟩:Addr).add j=⟨g,j,none⟩:=by
 unfold Addr.add
 split
 ·rename_i h0;subst h0;rfl
 ·simp
theorem run_append_OwK [Tags] {P : Program} (w : World) (base : Nat) (t ty e : TypeId) (z : Value) (k : Nat) (ht : P.underlying t = some (.slice e)) (hinfo : (P.info? e).map (fun i => (i.zero, i.size, i.bytes)) = some (some z, E.k, k)) (hzs : z.cells.size = E.k) (hk : 0 < E.k)
  (A0:Option Addr) (n c0:Nat) (l0:List α) (hown:OwE E w base e A0 n c0 l0) (D:Nat→Prop) (A:Option Addr) (m c:Nat) (l1:List α) (hb:RdE E w D A m l1) (hD:∀b,D b→But w A0 b) (hm:0 < m)
  (hbytes:(n+m)*k≤140737488355328) (hnm:n+m≤140737488355328) (hbase:base≤w.heap.size) :
  ∃A' c' w',(Builtin.append_ #[t,t] ty #[.slice A0 n c0,.slice A m c]).run P w=.ok (.slice A' (n+m) c') w'∧OwE E w' base e A' (n+m) c' (l0++l1)∧Below base w w' ∧
   (∀g j u,A0=some ⟨g,0,none⟩→j < n*E.k→w.cell? ⟨g,j,none⟩=some u→w'.cell? ⟨g,j,none⟩=some u)∧w.grownBy w' (Value.slice A0 n c0).ownBlock:=by
 obtain ⟨A',c',w',hr,h2,h3⟩:=run_append_OwE (P:=P) w base t ty e z k ht hinfo hzs hk A0 n c0 l0 hown D A m c l1 hb hD hbytes hnm hbase
 obtain ⟨css,hrow,hc,hl⟩:=hown
 obtain ⟨v',w2,dss,hr2,hrow2,-,-,hgr,-⟩:=run_append_E (P:=P) w base t ty e z k ht hinfo hzs hk _ n css hrow D A m c l1 hb hbytes hnm hbase
 rw [hr] at hr2
 cases hr2
 refine ⟨A',c',w',hr,h2,h3,?_,hgr⟩
 intro g j u hA hj hu
 subst hA
 obtain ⟨i,hi,hz,hsz,hby⟩:=info_parts hinfo
 obtain ⟨b,o,ess,rfl,_,hC,hcell⟩:=hb.cells hm
 have hfl:=flat_len hC.lens
 have hfc:=flat_len hc.lens
 have hs:=append_stays (P:=P) ht hi hz hsz hby hrow hr (news:=ess.flatten) (by rw [hfl,hC.1,hb.1]) (fun j u hu=>by
  have:=hcell j u hu
  rw [←this]
  congr 1
  unfold Addr.add
  split
  ·rename_i h0;subst h0;rfl
  ·rfl) hC.ones hbytes hnm
 have hjl:j < css.flatten.length:=by rw [hfc,hc.1,hl];exact hj
 obtain ⟨x,hx⟩:∃x,css.flatten[j]?=some x:=⟨_,List.getElem?_eq_getElem hjl⟩
 have h4:=hrow.cells (g:=g) rfl j x hx
 rw [add_flat] at h4
 obtain rfl:u=x:=Option.some.inj (hu.symm.trans h4)
 rcases hs with hs|hs
 ·have h5:=hrow2.cells (g:=g) (by rw [hs];rfl) j u (by rw [List.flatten_append,List.getElem?_append_left hjl];exact hx)
  rw [add_flat] at h5
  exact h5
 ·rcases hrow.2 with ⟨h0,-⟩|⟨g',cap,cur,h0,-,hg,-⟩
  ·cases h0
  ·cases h0
   exact (hs.cell (p:=⟨g,j,none⟩) (by have:=Array.getElem?_eq_some_iff.1 hg;exact this.1)).trans hu
theorem wp_append_OwK [Tags] {P : Program} (w : World) {o : Oper} {a : Act} {K : Act → World → Prop} {Q : Exit → Act → World → Prop} (s x : Operand) (t : TypeId)
  (ho:o.op=.call {callee:=.builtin .append,args:=#[s,x],argTypes:=#[t,t]})
  (base:Nat) (e:TypeId) (z:Value) (k:Nat) (ht:P.underlying t=some (.slice e)) (hinfo:(P.info? e).map (fun i=>(i.zero,i.size,i.bytes))=some (some z,E.k,k)) (hzs:z.cells.size=E.k) (hk:0 < E.k)
  (A0:Option Addr) (n c0:Nat) (l0:List α) (hs:a.eval s=.slice A0 n c0) (hown:OwE E w base e A0 n c0 l0) (D:Nat→Prop) (A:Option Addr) (m c:Nat) (l1:List α) (hx:a.eval x=.slice A m c) (hb:RdE E w D A m l1) (hD:∀b,D b→But w A0 b) (hm:0 < m)
  (N:Nat) (hN:n+m=N) (hbytes:N*k≤140737488355328) (hnm:N≤140737488355328) (hbase:base≤w.heap.size)
  (h:∀A' c' w',OwE E w' base e A' N c' (l0++l1)→Below base w w'→(∀g j u,A0=some ⟨g,0,none⟩→j < n*E.k→w.cell? ⟨g,j,none⟩=some u→w'.cell? ⟨g,j,none⟩=some u)→w.grownBy w' (Value.slice A0 n c0).ownBlock→K (a.put o.dst (.slice A' N c')) w'):o.wp P a w K Q:=by
 subst hN
 obtain ⟨A',c',w',hr,h2,h3,h4,h5⟩:=run_append_OwK (P:=P) w base t o.type e z k ht hinfo hzs hk A0 n c0 l0 hown D A m c l1 hb hD hm hbytes hnm hbase
 unfold Oper.wp execOp
 simp only [ho,resolve,invoke,builtin,Sem.run_bind,Sem.run_pure,Result.andThen_ok,List.map_toArray,List.map_cons,List.map_nil,hs,hx,hr]
 exact h A' c' w' h2 h3 h4 h5
def KeepS (wX:World) (B b o:Nat) (vc:List Value) (W:World):Prop:=Below B wX W∧(∀k,k < wX.heap.size→k≠b→W.heap[k]?=wX.heap[k]?)∧∀k x,vc[k]?=some x→W.cell? ⟨b,o+k,none⟩=some x
theorem KeepS.start {wX:World} {B b o:Nat} {vc:List Value} (hc:∀k x,vc[k]?=some x→wX.cell? ⟨b,o+k,none⟩=some x):KeepS wX B b o vc wX.drew:=⟨(Below.refl B wX).drew,fun _ _ _=>rfl,hc⟩
theorem KeepS.on {wX W W':World} {B b o:Nat} {vc:List Value} (h:KeepS wX B b o vc W) (hb:Below W.heap.size W W') (hB:B≤wX.heap.size) (hlt:b < wX.heap.size):KeepS wX B b o vc W':=by
 have hs:=h.1.size
 exact ⟨h.1.trans (hb.mono (by omega)),fun k hk hne=>(hb.block k (by omega)).trans (h.2.1 k hk hne),fun k x hx=>(hb.cell (p:=⟨b,o+k,none⟩) (by exact Nat.lt_of_lt_of_le hlt hs)).trans (h.2.2 k x hx)⟩
theorem KeepS.row {wX W:World} {B b o g t:Nat} {vc cs:List Value} (h:KeepS wX B b o vc W) (hr:RowL wX g t cs) (hg:g≠b):RowL W g t cs:=(h.2.1 g hr.lt hg).trans hr
theorem KeepS.rd {α:Type} {E:Enc α} {wX W:World} {B b o:Nat} {vc:List Value} {D:Nat→Prop} {A:Option Addr} {n:Nat} {l:List α} (h:KeepS wX B b o vc W) (hr:RdE E wX D A n l) (hD:∀k,D k→k < wX.heap.size∧k≠b):RdE E W D A n l :=
 hr.mono (fun k hk=>h.2.1 k (hD k hk).1 (hD k hk).2) (fun _ h=>h)
theorem KeepS.grow {wX W W':World} {B b o m:Nat} {vc:List Value} (h:KeepS wX B b o vc W) (hb:Below B W W') (hg:W.grownBy W' (some b)) (hk:o+vc.length≤m) (hc:∀j u,j < m→W.cell? ⟨b,j,none⟩=some u→W'.cell? ⟨b,j,none⟩=some u):KeepS wX B b o vc W':=by
 have hs:=h.1.size
 exact ⟨h.1.trans hb,fun k hk hne=>(hg.block k (by omega) (fun e=>hne (Option.some.inj e))).trans (h.2.1 k hk hne),fun j x hx=>hc _ _ (by have:=(List.getElem?_eq_some_iff.1 hx).1;omega) (h.2.2 j x hx)⟩
theorem und_at {α:Type} {E:Enc α} {w w':World} {B C:Nat} {A:Option Addr} {n:Nat} {l:List α} (h:RdE E w (Under B) A n l) (hb:Below C w w') (hBC:B≤C):RdE E w' (Under B) A n l :=
 h.mono (fun b hb'=>hb.block b (by unfold Under at hb';omega)) (fun _ h=>h)
end Go.Proofs.YtnhegahpfacdgaaGreat

namespace Go.Proofs.YtnhegahpfacdgaaGreat
open Go.RowKit Go.Shelf Plain

def TreeF (w:World) (ws:List WayV) (vs:List ViewV) (e:Ending) (w':World):Prop:=∃A c A' c',e=.returned (.tuple #[.slice A ws.length c,.slice A' vs.length c'])∧RdE wayEn w' (fun b=>w.heap.size≤b∧b < w'.heap.size) A ws.length ws∧RdE viewEn w' (Under w'.heap.size) A' vs.length vs∧Below w.heap.size w w'
theorem OwE.get_view {w:World} {base e n c:Nat} {A:Option Addr} {l:List ViewV} {j:Nat} {v:ViewV} (h:OwE viewEn w base e A n c l) (hv:l[j]?=some v):∃g A2 c2,A=some ⟨g,0,none⟩∧base≤g∧g < w.heap.size∧(∀k x,(viwC v.1 (.slice A2 v.2.length c2))[k]?=some x→w.cell? ⟨g,j*2+k,none⟩=some x)∧RdE prEn w (fun b=>b < w.heap.size∧b≠g) A2 v.2.length v.2:=by
 obtain ⟨css,hrow,hC,hl⟩:=h
 have hjl:=(List.getElem?_eq_some_iff.1 hv).1
 have hj:j < css.length:=by rw [hC.1];exact hjl
 obtain ⟨cs,hcs⟩:∃cs,css[j]?=some cs:=⟨_,List.getElem?_eq_getElem hj⟩
 obtain ⟨A2,c2,rfl,hr⟩:=hC.2 j cs v hcs hv
 rcases hrow.2 with ⟨h0,h1⟩|⟨g,cap,cur,h0,hbg,hg,-⟩
 ·cases h0
  omega
 ·cases h0
  refine ⟨g,A2,c2,rfl,hbg,(Array.getElem?_eq_some_iff.1 hg).1,fun k x hx=>?_,hr.mono (fun _ _=>rfl) (fun b hb=>⟨hb.1.1,hb.2 _ rfl⟩)⟩
  have hk:k < 2:=(List.getElem?_eq_some_iff.1 hx).1
  have h3:=hrow.cells (g:=g) rfl (j*2+k) x ((flat_get hC.lens hcs hk).trans hx)
  rw [add_flat] at h3
  exact h3
set_option maxRecDepth 100000 in
set_option maxHeartbeats 4000000 in
theorem VTree_any {g:GeoQ} {AU AL:Option Addr} {nU cU nL cL B:Nat} {up:List NodV} {ls:List (List NodV)} {ws:List WayV} (hw:(walkW up [1]).1=ws) (w:World) (hu:RdE nodEn w (Under B) AU nU up) (h:RdE layEn w (Under B) AL nL ls) (hB:B≤w.heap.size) (hF:FewL ls) (hup:FewU up):Calls Tryz.prog 37 #[.agg (stkC g (.slice AU nU cU) (.slice AL nL cL)).toArray] w (TreeF w ws (treeV up ls ws)):=by
 obtain ⟨W1,hW1⟩:∃W1,(w.alloc (.cells (stkC g (.slice AU nU cU) (.slice AL nL cL)).toArray 29))=W1:=⟨_,rfl⟩
 obtain ⟨r0,hb1,hs1⟩:=rowA1 w _ _ hW1
 have hW1':(w.alloc (.cells #[.int .i64 g.a,.int .i64 g.b,.int .i64 g.c,.int .i64 g.d,.slice AU nU cU,.slice AL nL cL] 29))=W1:=hW1
 have R1:=hide r0
 have HB:=hide hb1
 have hsz0:=hb1.size
 have HU:=hide (hu.under hb1 hB)
 have HL:=hide (h.under hb1 hB)
 have HF:=hide hF
 have HFU:=hide hup
 have HW:=hide hw
 obtain ⟨V,hV⟩:∃V,rootV up ls=V:=⟨_,rfl⟩
 have HV:=hide hV
 have HINT:=hide (show RdE Enc.int (W1.alloc (.cells #[.int .i64 1] 3)) (Under (W1.alloc (.cells #[.int .i64 1] 3)).heap.size) (some ⟨w.heap.size+1,0,none⟩) 1 [1] from by rw [←hs1];exact int_one W1)
 have HUP:=hide (show UpV ws from by rw [←hw];exact walk_upv up)
 have hwl:ws.length≤24:=by have h1:=(walk_ok up [1]).le;rw [hw] at h1;have:=hup.1;omega
 have hll:ls.length≤100:=by have:=hF.1;omega
 have q1_4:W1.cell? ⟨w.heap.size,4,none⟩=some (.slice AU nU cU):=R1.out.cell 4
 unfold stkC
 clear r0 hb1 hW1 hu h hF hup hw hV
 go_enter Tryz.func37,Tryz.ntmps37
 go_wp2_with (first|(go_at_call 60;refine (Dirs_any _ (und_up (HU.out.under (below_new (below_self W1) _) (by omega)) (by simp;omega)) HINT.out (plain_many HFU.out.1 HFU.out.2).1 (by omega)).mono ?_;rintro e1 wD ⟨A4,n4,c4,rfl,hc4,h4,hbel0⟩;have hbel:Below W1.heap.size W1 wD:=(below_new (below_self W1) (.cells #[.int .i64 1] 3)).trans (hbel0.mono (by simp));rw [HW.out] at h4;replace h4:=fr_low h4 (lo':=W1.heap.size) (by simp);clear q1_4;replace HB:=hide (HB.out.trans (hbel.mono HB.out.size));replace R1:=hide (R1.out.on hbel);replace HU:=hide (HU.out.under hbel (by omega));replace HL:=hide (HL.out.under hbel (by omega));have hsz1:=hbel.size;have q1_4:wD.cell? ⟨w.heap.size,4,none⟩=some (.slice AU nU cU):=R1.out.cell 4;have H4:=hide h4;clear h4 hbel hbel0))
 have hn4:ws.length=n4:=H4.out.1
 have hWD:W1.heap.size≤wD.heap.size:=by omega
 clear hW1' q1_4
 go_loopw [5,14] (fun v5 v14 wr=>∃j:Nat,j≤n4∧v14=.int .i64 j∧(∃A c,v5=.slice A j c∧(j=0→A=none∧c=0)∧OwE viewEn wr wD.heap.size 80 A j c (treeV up ls (ws.take j)))∧Below wD.heap.size wD wr) (fun _ v14 _=>n4 - (intOf v14).toNat)
 case atStart=>exact ⟨0,by omega,rfl,⟨none,0,rfl,fun _=>⟨rfl,rfl⟩,OwE.nil_ _ _ _ _⟩,below_self _⟩
 case round =>
  obtain ⟨j,hj,rfl,⟨A5,c5,rfl,h0,ho⟩,hbr⟩:=hrel
  have hbsz:=hbr.size
  replace HB:=hide (HB.out.trans (hbr.mono HB.out.size))
  replace R1:=hide (R1.out.on hbr)
  replace HU:=hide (HU.out.under hbr (by omega))
  replace HL:=hide (HL.out.under hbr (by omega))
  replace H4:=hide (fr_on H4.out hbr)
  have hsz2:=hbr.size
  have HBR:=hide hbr
  have HO:=hide ho
  clear hbr ho
  by_cases hlt:j < n4
  ·have hjn:(j:Int) < (n4:Int):=by omega
   obtain ⟨y,hy⟩:∃y,ws[j]?=some y:=⟨_,List.getElem?_eq_getElem (by omega)⟩
   obtain ⟨bW,oW,rfl,hbW,hcW⟩:=way_get H4.out hy
   have HCW:=hide hcW
   obtain ⟨hu0,hu1⟩:=HUP.out j y hy
   have HTS:=hide (tree_succ up ls hy)
   clear hcW hy
   by_cases hj0:j=0
   ·subst hj0
    obtain ⟨rfl,rfl⟩:=h0 rfl
    have hyu:=(hu0 rfl).1
    clear h0 hu0 hu1 HO
    go_wp2_with (first|(refine wpList_loadX rfl 75 (.tmp 17) rfl 3 way_agg way_size bW (oW+0*3) rfl (wayC y) HCW.out rfl ?_)|(refine wpList_storeW rfl 75 (.tmp 7) (.tmp 18) rfl 3 way_size (wr.heap.size) 75 rfl [.int .i64 0,.int .i64 0,.string ⟨#[]⟩] (wayC y) rfl (RowL.new wr 75 [.int .i64 0,.int .i64 0,.string ⟨#[]⟩]) rfl rfl (wayC_one _) ?_;intro wS61 hr61 hg61 hs61;have hzb:=below_stored' hg61;have HBx:=hide hzb;replace HB:=hide (HB.out.trans (hzb.mono HB.out.size));replace R1:=hide (R1.out.on hzb);replace HU:=hide (HU.out.under hzb (by omega));replace HL:=hide (HL.out.under hzb (by omega));replace H4:=hide (fr_on H4.out hzb);have hsz62:=hzb.size;have RW:=hide hr61;have hlt61:=hr61.lt;have q7_1:wS61.cell? ⟨wr.heap.size,1,none⟩=some (.int .i64 y.up):=RW.out.cell 1;have q7_0:wS61.cell? ⟨wr.heap.size,0,none⟩=some (.int .i64 y.ino):=RW.out.cell 0;have q7_2:wS61.cell? ⟨wr.heap.size,2,none⟩=some (.string ⟨y.name.toArray⟩):=RW.out.cell 2;clear hzb hr61;clear hg61 hs61)|(refine wpList_loadW rfl 29 (.tmp 1) rfl 6 stk_agg stk_size (w.heap.size) 29 rfl (stkC g (.slice AU nU cU) (.slice AL nL cL)) R1.out rfl ?_)|(go_at_call 61;refine (VRoot_e HV.out wS61 HU.out HL.out (by omega) HF.out HFU.out).mono ?_;rintro e63 wR ⟨A6,c6,rfl,h6,hbel⟩;have HBX:=hide (HBx.out.trans (hbel.mono HBx.out.size));clear q7_1 q7_0 q7_2;replace HB:=hide (HB.out.trans (hbel.mono HB.out.size));replace R1:=hide (R1.out.on hbel);replace HU:=hide (HU.out.under hbel (by omega));replace HL:=hide (HL.out.under hbel (by omega));replace H4:=hide (fr_on H4.out hbel);replace RW:=hide (RW.out.on hbel);have hsz64:=hbel.size;have q7_1:wR.cell? ⟨wr.heap.size,1,none⟩=some (.int .i64 y.up):=RW.out.cell 1;have q7_0:wR.cell? ⟨wr.heap.size,0,none⟩=some (.int .i64 y.ino):=RW.out.cell 0;have q7_2:wR.cell? ⟨wr.heap.size,2,none⟩=some (.string ⟨y.name.toArray⟩):=RW.out.cell 2;have H6:=hide h6;clear h6;simp only [viwC];have hlit:(Instr.buildSlice 68 1 #[(0,.agg #[.int .i64 V.1,.slice A6 V.2.length c6])]).run Tryz.prog wR=.ok (.slice (some ⟨wR.heap.size,0,none⟩) 1 1) (wR.alloc (.cells #[.int .i64 V.1,.slice A6 V.2.length c6] 80)):=lit_viw V.1 A6 V.2.length c6 wR;clear hbel)|(at_builtin;refine wpList_append_OwE (E:=viewEn) _ rfl (.tmp 21) (.tmp 24) 68 rfl wD.heap.size 80 zviw 32 Tryz.underlying68 viw_info rfl (by decide) none 0 0 [] rfl (OwE.nil_ _ _ _ _) (fun b=>wS61.heap.size≤b∧b < (wR.alloc (.cells (viwC V.1 (.slice A6 V.2.length c6)).toArray 80)).heap.size) (some ⟨wR.heap.size,0,none⟩) 1 1 [V] rfl (viw_lit1 wR V H6.out (by omega)) (fun b hb=>⟨⟨hb.2,fun _ _ _ _=>rfl⟩,fun a ha=>by cases ha⟩) 1 rfl (by omega) (by omega) (by simp;omega) ?_;intro A7 c7 w7 ho7 hb7;have HB7:=hide (HBR.out.trans (((HBX.out.mono (by omega)).alloc (by omega) _).trans hb7));have HO7:=hide ho7;clear ho7 hb7))
    go_roundw
    case rel =>
     refine ⟨1,by omega,rfl,⟨_,_,rfl,fun h=>by omega,?_⟩,HB7.out⟩
     have h1:=HO7.out
     rw [HTS.out]
     rw [show wayView up ls (treeV up ls (ws.take 0)) y=V from by unfold wayView;rw [hyu,if_pos (by decide)];exact HV.out]
     exact h1
    case measure=>simp [intOf];omega
   ·obtain ⟨p,hyp,hpj⟩:=hu1 (by omega)
    have hpl:p < (treeV up ls (ws.take j)).length:=by rw [tree_take,List.length_take];omega
    obtain ⟨v,hv⟩:∃v,(treeV up ls (ws.take j))[p]?=some v:=⟨_,List.getElem?_eq_getElem hpl⟩
    obtain ⟨P,hP⟩:∃P,partV up ls v.2 y.ino y.name=P:=⟨_,rfl⟩
    have HP:=hide hP
    have hvf:v.2.length≤ls.length:=tree_few up ls _ v (List.mem_of_getElem? hv)
    have HWV:=hide (show wayView up ls (treeV up ls (ws.take j)) y=(y.ino,P) from by unfold wayView;rw [hyp,if_neg (by omega),Int.toNat_natCast,hv];show (y.ino,partV up ls v.2 y.ino y.name)=_;rw [hP])
    have HVV:=hide hv
    have hj0':((j:Int)==0)=false:=by simpa using (by omega:¬(j:Int)=0)
    obtain ⟨gO,rfl,-,hgr,-⟩:=HO.out.at_ (by omega)
    clear h0 hu0 hu1 hP hv hpl
    go_wp2_with (first|(refine wpList_loadX rfl 75 (.tmp 17) rfl 3 way_agg way_size bW (oW+j*3) rfl (wayC y) HCW.out rfl ?_)|(refine wpList_storeW rfl 75 (.tmp 7) (.tmp 18) rfl 3 way_size (wr.heap.size) 75 rfl [.int .i64 0,.int .i64 0,.string ⟨#[]⟩] (wayC y) rfl (RowL.new wr 75 [.int .i64 0,.int .i64 0,.string ⟨#[]⟩]) rfl rfl (wayC_one _) ?_;intro wS61 hr61 hg61 hs61;have hzb:=below_stored' hg61;have HBx:=hide hzb;replace HB:=hide (HB.out.trans (hzb.mono HB.out.size));replace R1:=hide (R1.out.on hzb);replace HU:=hide (HU.out.under hzb (by omega));replace HL:=hide (HL.out.under hzb (by omega));replace H4:=hide (fr_on H4.out hzb);replace HO:=hide (HO.out.below hzb);have hsz62:=hzb.size;have RW:=hide hr61;have hlt61:=hr61.lt;have q7_1:wS61.cell? ⟨wr.heap.size,1,none⟩=some (.int .i64 y.up):=RW.out.cell 1;have q7_0:wS61.cell? ⟨wr.heap.size,0,none⟩=some (.int .i64 y.ino):=RW.out.cell 0;have q7_2:wS61.cell? ⟨wr.heap.size,2,none⟩=some (.string ⟨y.name.toArray⟩):=RW.out.cell 2;clear hzb hr61;clear hg61 hs61))
    obtain ⟨g',A2,c2,hge,hgb,hgl,hcv,hrv⟩:=OwE.get_view HO.out HVV.out
    cases hge
    have HVC:=hide hcv
    have hpj':(p:Int) < (j:Int):=by omega
    have hp0:(0:Int)≤(p:Int):=by omega
    have hyu:y.up=(p:Int):=hyp
    clear hcv q7_1 q7_0 q7_2
    refine wp_region_planN (fun w'=>KeepS wS61 wD.heap.size gO (p*2) (viwC v.1 (.slice A2 v.2.length c2)) w') [(0,true),(1,true),(2,true),(3,true),(4,true),(5,true),(6,true),(7,true),(8,true),(9,true),(10,true),(11,true),(12,false),(13,false),(14,false),(15,true)] (by kernel_rfl) (by kernel_rfl) (by kernel_rfl) (by kernel_rfl) rfl (fun _ _ _ _ _ h=>h) (KeepS.start HVC.out) (fun hHeld=>?_)
    have hwds:wS61.drew.heap.size=wS61.heap.size:=rfl
    replace HO:=hide (show OwE viewEn wS61.drew wD.heap.size 80 (some ⟨gO,0,none⟩) j c5 (treeV up ls (ws.take j)) from HO.out)
    replace HU:=hide (show RdE nodEn wS61.drew (Under B) AU nU up from HU.out)
    replace HL:=hide (show RdE layEn wS61.drew (Under B) AL nL ls from HL.out)
    have HVL:=hide (show RdE prEn wS61.drew (Under wS61.drew.heap.size) A2 v.2.length v.2 from hrv.mono (fun _ _=>rfl) (fun b hb=>hb.1))
    clear hrv
    generalize wS61.drew=wd at *
    simp only [planOps,List.filterMap_cons,List.filterMap_nil,List.getElem?_toArray,List.getElem?_cons_succ,List.getElem?_cons_zero,Option.map_some]
    refine wpPlan_take (v:=?_) (by kernel_rfl) (fun wS hSw=>?_) ?_
    rotate_left
    ·(try dsimp only at hSw);go_simp;(try with_reducible rfl)
    (try simp only [Act.put,pu1,pu2,pu3])
    refine wpPlan_take (v:=?_) (by kernel_rfl) (fun wS hSw=>?_) ?_
    rotate_left
    ·refine execOp_load (x:=.tmp 1) (k:=6) (g:=w.heap.size) (off:=0) (cs:=[.int .i64 g.a,.int .i64 g.b,.int .i64 g.c,.int .i64 g.d,.slice AU nU cU,.slice AL nL cL]) ?_ stk_agg stk_size ?_ (fun j v hv=>by rw [Nat.zero_add];exact ((hSw.row R1.out (by omega)).cell j).trans hv) rfl <;> rfl
    (try simp only [Act.put,pu1,pu2,pu3])
    iterate 2
     refine wpPlan_take (v:=?_) (by kernel_rfl) (fun wS hSw=>?_) ?_
     rotate_left
     ·(try dsimp only at hSw);go_simp;(try with_reducible rfl)
     (try simp only [Act.put,pu1,pu2,pu3])
    refine wpPlan_take (v:=?_) (by kernel_rfl) (fun wS hSw=>?_) ?_
    rotate_left
    ·have qx:=((hSw.row RW.out (by omega)).cell 1).trans (show (wayC y)[1]?=some (.int .i64 y.up) from rfl);go_simp;(try with_reducible rfl)
    (try simp only [Act.put,pu1,pu2,pu3])
    refine wpPlan_take (v:=?_) (by kernel_rfl) (fun wS hSw=>?_) ?_
    rotate_left
    ·(try dsimp only at hSw);go_simp;(try with_reducible rfl)
    (try simp only [Act.put,pu1,pu2,pu3])
    refine wpPlan_take (v:=?_) (by kernel_rfl) (fun wS hSw=>?_) ?_
    rotate_left
    ·refine execOp_load (x:=.tmp 31) (k:=2) (g:=gO) (off:=p*2) (cs:=[.int .i64 v.1,.slice A2 v.2.length c2]) ?_ viw_agg viw_size ?_ (fun j v hv=>hSw.2.2 j v hv) rfl <;> rfl
    (try simp only [Act.put,pu1,pu2,pu3])
    iterate 2
     refine wpPlan_take (v:=?_) (by kernel_rfl) (fun wS hSw=>?_) ?_
     rotate_left
     ·(try dsimp only at hSw);go_simp;(try with_reducible rfl)
     (try simp only [Act.put,pu1,pu2,pu3])
    refine wpPlan_take (v:=?_) (by kernel_rfl) (fun wS hSw=>?_) ?_
    rotate_left
    ·have qx:=((hSw.row RW.out (by omega)).cell 0).trans (show (wayC y)[0]?=some (.int .i64 y.ino) from rfl);go_simp;(try with_reducible rfl)
    (try simp only [Act.put,pu1,pu2,pu3])
    refine wpPlan_take (v:=?_) (by kernel_rfl) (fun wS hSw=>?_) ?_
    rotate_left
    ·(try dsimp only at hSw);go_simp;(try with_reducible rfl)
    (try simp only [Act.put,pu1,pu2,pu3])
    refine wpPlan_take (v:=?_) (by kernel_rfl) (fun wS hSw=>?_) ?_
    rotate_left
    ·have qx:=((hSw.row RW.out (by omega)).cell 2).trans (show (wayC y)[2]?=some (.string ⟨y.name.toArray⟩) from rfl);go_simp;(try with_reducible rfl)
    (try simp only [Act.put,pu1,pu2,pu3])
    refine wpPlan_call (by kernel_rfl) (fun K hK=>?_)
    have hOld:=hide hHeld
    clear hHeld
    go_simp
    go_at_call 62
    refine (VAbove_any (u:=v.1) (cV:=c2) (BV:=wd.heap.size) HP.out _ HU.out HL.out (by omega) HF.out HFU.out HVL.out (Nat.le_refl _) (by omega)).mono ?_
    rintro e w' ⟨A6,c6,rfl,h6,hbel⟩
    have H6:=hide h6
    have HO2:=hide (HO.out.below hbel)
    have hszc:=hbel.size
    clear h6
    refine hK.out _ _ (hOld.out.on hbel (by omega) (by omega)) (fun hHeld=>?_)
    clear hK K
    (try dsimp only)
    refine wpPlan_call (by kernel_rfl) (fun K hK=>?_)
    have hOld:=hide hHeld
    clear hHeld
    unfold Oper.wp execOp
    have hlit:(Instr.buildSlice 68 1 #[(0,.agg #[.int .i64 y.ino,.slice A6 P.length c6])]).run Tryz.prog w'=.ok (.slice (some ⟨w'.heap.size,0,none⟩) 1 1) (w'.alloc (.cells #[.int .i64 y.ino,.slice A6 P.length c6] 80)):=lit_viw y.ino A6 P.length c6 w'
    simp only [viwC]
    go_simp
    have hal:=below_new (below_self w') (.cells #[.int .i64 y.ino,.slice A6 P.length c6] 80)
    refine hK.out _ _ (hOld.out.on hal (by omega) (by omega)) (fun hHeld=>?_)
    clear hK K
    have HO3:=hide (HO2.out.alloc (.cells #[.int .i64 y.ino,.slice A6 P.length c6] 80))
    clear hlit hal HO2 hOld
    (try simp only [Act.put,pu1,pu2,pu3])
    refine wpPlan_call (by kernel_rfl) (fun K hK=>?_)
    have hOld:=hide hHeld
    clear hHeld
    refine wp_append_OwK (E:=viewEn) _ (.tmp 26) (.tmp 39) 68 rfl wD.heap.size 80 zviw 32 Tryz.underlying68 viw_info rfl (by decide) (some ⟨gO,0,none⟩) j c5 (treeV up ls (ws.take j)) rfl HO3.out (fun b=>wd.heap.size≤b∧b < (w'.alloc (.cells (viwC y.ino (.slice A6 P.length c6)).toArray 80)).heap.size) (some ⟨w'.heap.size,0,none⟩) 1 1 [(y.ino,P)] rfl (viw_lit1 w' (y.ino,P) H6.out (by omega)) (fun b hb=>⟨⟨hb.2,fun _ _ _ _=>rfl⟩,fun a ha=>by cases ha;exact (fun e=>by have h1:=hb.1;rw [e] at h1;exact absurd h1 (by show ¬wd.heap.size≤gO;omega))⟩) (by omega) (j+1) rfl (by omega) (by omega) (by simp;omega) ?_
    intro A7 c7 w7 ho7 hb7 hk7 hg7
    refine hK.out _ _ (hOld.out.grow hb7 hg7 (m:=j*2) (by simp only [viwC,List.length_cons,List.length_nil];omega) (fun i u hi hu=>hk7 gO i u rfl hi hu)) (fun hHeld=>?_)
    clear hK K
    have HO7:=hide ho7
    clear ho7 hb7 hk7 hg7 hOld
    (try simp only [Act.put,pu1,pu2,pu3])
    refine wpPlan_take (v:=?_) (by kernel_rfl) (fun wS hSw=>?_) ?_
    rotate_left
    ·(try dsimp only at hSw);go_simp;(try with_reducible rfl)
    (try simp only [Act.put,pu1,pu2,pu3])
    refine wpPlan_end ?_
    go_wp2_with fail
    go_roundw
    case rel =>
     refine ⟨j+1,by omega,by go_num,⟨_,_,rfl,fun h=>by omega,?_⟩,(HBR.out.trans (HBx.out.mono (by omega))).trans hHeld.1⟩
     rw [HTS.out,HWV.out]
     exact HO7.out
    case measure=>simp [intOf];omega
  ·obtain rfl:j=n4:=by omega
   have hj2:¬(j:Int) < (j:Int):=by omega
   go_wp2_with fail
   go_ret2
   have ht:ws.take j=ws:=List.take_of_length_le (by omega)
   have h5:=(HO.out.rd rfl).plain
   rw [ht] at h5
   refine ⟨A4,c4,A5,c5,by rw [tree_len,hn4];rfl,by rw [hn4];exact fr_low H4.out (by omega),by rw [tree_len,hn4];exact h5,HB.out⟩
end Go.Proofs.YtnhegahpfacdgaaGreat

