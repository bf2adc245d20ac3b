import Derived.Test.YtpndfahgflgocaaGreatDoorLn18
import Derived.Test.YtpndfahgflgocaaGreatDoorLn19
import Derived.Test.YtpndfahgflgocaaGreatDoorLn23
import Derived.Test.YtpndfahgflgocaaGreatDoorLn2
import Derived.Test.YtpndfahgflgocaaGreatDoorLn10

namespace Go.Proofs.YtpndfahgflgocaaGreatDoor
open Go.RowKit Go.Shelf Plain

def DirQ (ns:List NodV) (q:Int×Nat):Prop:=∃e,(nodAt ns q.1).ents[q.2]?=some e∧isDir ns e.ino=true
theorem visit_dirq {ns:List NodV} {p:Nat} {s:StW} (h:∀q∈s.2,DirQ ns q):∀q∈(visitW ns p s).2,DirQ ns q:=by
 unfold visitW
 split
 ·exact h
 ·rename_i y _
  refine foldl_keep (P:=fun s:StW=>∀q∈s.2,DirQ ns q) _ _ h (fun s x hx hs=>?_)
  unfold oneW
  split
  ·intro q hq
   rcases List.mem_append.1 hq with hq|hq
   ·exact hs q hq
   ·rw [List.mem_singleton] at hq
    subst hq
    unfold dirsOf at hx
    obtain ⟨h1,h2⟩:=List.mem_filter.1 hx
    have h3:=List.mem_zipIdx_iff_getElem?.1 h1
    exact ⟨x.1,h3,h2⟩
  ·exact hs
theorem run_dirq {ns : List NodV} : ∀ (f p : Nat) (s : StW), (∀ q ∈ s.2, DirQ ns q) → ∀ q ∈ (runW ns f p s).2, DirQ ns q
 | 0,_,_,h=>h
 | f+1,p,s,h=>by
  unfold runW
  split
  ·exact run_dirq f (p+1) _ (visit_dirq h)
  ·exact h
theorem walk_dirq (ns:List NodV) (ff:List Int):∀q∈(walkW ns ff).2,DirQ ns q :=
 foldl_keep (P:=fun s:StW=>∀q∈s.2,DirQ ns q) _ _ (by simp) (fun s i _ hs=>by
  unfold rootW
  split
  ·exact run_dirq _ _ _ hs
  ·exact hs)
theorem rise_lt {l:List EntV} (h:RiseE l l.length):∀(j i:Nat) (a b:EntV),i < j→l[i]?=some a→l[j]?=some b→a.slot < b.slot:=by
 intro j
 induction j with
 | zero=>intro i a b hi;omega
 | succ j ih =>
  intro i a b hij ha hb
  have hjl:=(List.getElem?_eq_some_iff.1 hb).1
  obtain ⟨c,hc⟩:∃c,l[j]?=some c:=⟨_,List.getElem?_eq_getElem (by omega)⟩
  have h1:=(h (j+1) b hjl hb).2.2 c (by omega) (by simpa using hc)
  by_cases hji:i=j
  ·subst hji
   rw [ha] at hc
   cases hc
   exact h1
  ·have:=ih i a c (by omega) ha hc
   omega
theorem rise_one {l:List EntV} (h:RiseE l l.length) {i j:Nat} {a b:EntV} (ha:l[i]?=some a) (hb:l[j]?=some b) (hs:a.slot=b.slot):a=b:=by
 rcases Nat.lt_trichotomy i j with h1|h1|h1
 ·have:=rise_lt h j i a b h1 ha hb;omega
 ·subst h1
  rw [ha] at hb
  exact Option.some.inj hb
 ·have:=rise_lt h i j b a h1 hb ha;omega
theorem again_kind {up:List NodV} (hup:FewU up) {d:Int} {x:List UInt8} {e:EntV} (h:firstB up d x=some e) (ht:(d,e.slot)∈twiceS up (walkW up [1])):(nodAt up e.ino).k=1:=by
 obtain ⟨⟨d',k⟩,hq,hs⟩:=List.mem_map.1 ht
 obtain ⟨e',he',hd'⟩:=walk_dirq up [1] _ hq
 unfold slotQ at hs
 simp only at he' hs
 obtain ⟨rfl,hs2⟩:=Prod.mk.injEq .. ▸ hs
 rw [he',Option.getD_some] at hs2
 obtain ⟨-,-,h3⟩:=firstB_use h
 have h4:e∈(nodAt up d').ents:=by
  unfold entB at h3
  split at h3
  ·exact h3
  ·cases h3
 obtain ⟨i,hil,hie⟩:=List.mem_iff_getElem.1 h4
 have hr:=(nodAt_plain hup.2 d').1
 have:=rise_one hr (by rw [List.getElem?_eq_getElem hil,hie]) he' hs2.symm
 subst this
 simpa [isDir] using hd'
def touC (g:GeoQ) (U L m S X:Value):List Value:=[.int .i64 g.a,.int .i64 g.b,.int .i64 g.c,.int .i64 g.d,U,L,m,S,X]
set_option maxRecDepth 100000 in
theorem stp_agg:∀w,(isAgg 122).run Tryz.prog w=.ok true w:=fun w=>by kernel_rfl
set_option maxRecDepth 100000 in
theorem stp_size:∀w,(Go.sizeOf 122).run Tryz.prog w=.ok 3 w:=fun w=>by kernel_rfl
set_option maxRecDepth 100000 in
theorem shn_agg:∀w,(isAgg 97).run Tryz.prog w=.ok true w:=fun w=>by kernel_rfl
set_option maxRecDepth 100000 in
theorem shn_size:∀w,(Go.sizeOf 97).run Tryz.prog w=.ok 4 w:=fun w=>by kernel_rfl
def shnC (x:ShnV):List Value:=[.string ⟨x.1.toArray⟩,.int .i64 x.2.1,.int .i64 x.2.2.1,.int .i64 x.2.2.2]
theorem shnC_one (x:ShnV):∀v∈shnC x,v.oneCell'=true:=by simp [shnC,Value.oneCell']
def shnEn : Enc ShnV where
 k:=4
 R:=fun _ _ cs x=>cs=shnC x
 len:=fun h=>by rw [h];rfl
 one:=fun h=>by rw [h];exact shnC_one _
 mono:=fun h _ _=>h
abbrev RawS:=Int×(Option Addr×Nat×Nat)×List UInt8
def rawC (x:RawS):List Value:=[.int .i64 x.1,.slice x.2.1.1 x.2.1.2.1 x.2.1.2.2,.string ⟨x.2.2.toArray⟩]
theorem rawC_one (x:RawS):∀v∈rawC x,v.oneCell'=true:=by simp [rawC,Value.oneCell']
def rawEn : Enc RawS where
 k:=3
 R:=fun _ _ cs x=>cs=rawC x
 len:=fun h=>by rw [h];rfl
 one:=fun h=>by rw [h];exact rawC_one _
 mono:=fun h _ _=>h
set_option maxRecDepth 100000 in
set_option maxHeartbeats 8000000 in
theorem Again_any {g:GeoQ} {AU AL:Option Addr} {nU cU nL cL B gT bM cM:Nat} {vS vX:Value} {up:List NodV} {d:Int} {nm:List UInt8} {r:Bool} (hr:againS up d nm=r) (w:World) (ht:RowL w gT 126 (touC g (.slice AU nU cU) (.slice AL nL cL) (.map (some bM)) vS vX)) (hm:SetP w bM cM (fun q=>(twiceS up (walkW up [1])).contains q)) (hu:RdE nodEn w (Under B) AU nU up) (hB:B≤w.heap.size) (hup:FewU up) (hdi:i64 d):Calls Tryz.prog 101 #[.pointer (some ⟨gT,0,none⟩),.int .i64 d,.string ⟨nm.toArray⟩] w (BoolB w r):=by
 have RT:=hide ht
 have HM:=hide hm
 have HU:=hide hu
 have HFU:=hide hup
 have HB:=hide (below_self w)
 have hgT:=ht.lt
 have hbM:=hm.lt
 obtain ⟨o,ho⟩:∃o,firstB up d nm=o:=⟨_,rfl⟩
 obtain ⟨E,hE⟩:∃E,entO o=E:=⟨_,rfl⟩
 obtain ⟨N,hN⟩:∃N,nodB up o=N:=⟨_,rfl⟩
 have HE1:=hide (show entO (firstB up d nm)=E from by rw [ho];exact hE)
 have HN1:=hide (show nodB up (firstB up d nm)=N from by rw [ho];exact hN)
 have HEL:=hide (show (entB up d).length≤17 from Nat.le_trans (entB_len hup.2 d) (by omega))
 have hEs:i64 E.slot:=by
  rw [←hE]
  cases ho':o with
  | none=>unfold entO i64;simp [ent0]
  | some e =>
   obtain ⟨-,-,h3⟩:=firstB_use (ho.trans ho')
   have h4:e∈(nodAt up d).ents:=by
    unfold entB at h3
    split at h3
    ·exact h3
    ·cases h3
   obtain ⟨i,hil,hie⟩:=List.mem_iff_getElem.1 h4
   have h5:=(nodAt_plain hup.2 d).1 i e hil (by rw [List.getElem?_eq_getElem hil,hie])
   unfold entO i64
   simp only [Option.getD_some]
   omega
 obtain ⟨tw,htw⟩:∃t,(twiceS up (walkW up [1])).contains (d,E.slot)=t:=⟨_,rfl⟩
 have HR:=hide (show r=(tw&&(N.k==1)) from by
  rw [←hr,←htw,←hN,←hE]
  unfold againS
  rw [ho]
  cases ho':o with
  | none=>simp [nodB,nod0]
  | some e =>
   simp only [entO,Option.getD_some,nodB]
   by_cases hc:(d,e.slot)∈twiceS up (walkW up [1])
   ·rw [again_kind hup (ho.trans ho') hc]
    simp
   ·have:(twiceS up (walkW up [1])).contains (d,e.slot)=false:=by simpa using hc
    rw [this]
    rfl)
 have q13_4:w.cell? ⟨gT,4,none⟩=some (.slice AU nU cU):=RT.out.cell 4
 clear ht hm hu hup hr hE hN ho
 go_enter Tryz.func101,Tryz.ntmps101
 go_wp2_with (first|(refine wpList_loadC rfl 26 (.tmp 15) rfl 1 lay_agg lay_size gT 4 126 rfl (touC g (.slice AU nU cU) (.slice AL nL cL) (.map (some bM)) vS vX) [.slice AU nU cU] RT.out rfl rfl ?_)|(go_at_call 127;refine (First_m HE1.out HN1.out w HU.out (by omega) (by have:=HFU.out.1;omega) HEL.out).mono ?_;rintro e1 wF ⟨A1,n1,c1,C1,m1,d1,rfl,hbel⟩;clear q13_4;replace HB:=hide (HB.out.trans (hbel.mono HB.out.size));replace RT:=hide (RT.out.on hbel);replace HM:=hide (HM.out.on hbel);replace HU:=hide (HU.out.under hbel (by omega));have hsz2:=hbel.size;have q13_4:wF.cell? ⟨gT,4,none⟩=some (.slice AU nU cU):=RT.out.cell 4;clear hbel)|(obtain ⟨hz7,hz8,hzb,hzs⟩:=rows2 wF [.int .i64 0,.int .i64 0,.string ⟨#[]⟩] (nodC nod0 (.slice none 0 0) (.slice none 0 0)) 31 51;refine wpList_storeW rfl 31 (.tmp 7) (.tmp 20) rfl 3 entw_size (wF.heap.size) 31 rfl [.int .i64 0,.int .i64 0,.string ⟨#[]⟩] (cellsE E) rfl hz7 rfl rfl (cellsE_one _) ?_;intro wS3 hr3 hg3 hs3;replace hzb:=hzb.grown hg3 hzb.size (pu4 (by omega));replace hz8:=hz8.grown hg3 (pu5 (by omega));have hz7:=hr3;clear hg3 hs3 hr3)|(refine wpList_storeW rfl 51 (.tmp 8) (.tmp 21) rfl 13 nod_size (wF.heap.size+1) 51 rfl (nodC nod0 (.slice none 0 0) (.slice none 0 0)) (nodC N (.slice A1 n1 c1) (.slice C1 m1 d1)) rfl hz8 rfl rfl (nodC_one _ _ _ _ _ _ _) ?_;intro wS4 hr4 hg4 hs4;replace hzb:=hzb.grown hg4 hzb.size (pu4 (by omega));replace hz7:=hz7.grown hg4 (pu5 (by omega));have hz8:=hr4;clear q13_4;replace HB:=hide (HB.out.trans (hzb.mono HB.out.size));replace RT:=hide (RT.out.on hzb);replace HM:=hide (HM.out.on hzb);replace HU:=hide (HU.out.under hzb (by omega));have hsz5:=hzb.size;have q13_4:wS4.cell? ⟨gT,4,none⟩=some (.slice AU nU cU):=RT.out.cell 4;have R7:=hide hz7;have hlt3:=hz7.lt;have R8:=hide hz8;have hlt4:=hz8.lt;have q7_0:wS4.cell? ⟨wF.heap.size,0,none⟩=some (.int .i64 E.slot):=R7.out.cell 0;have q8_0:wS4.cell? ⟨wF.heap.size+1,0,none⟩=some (.int .i64 N.k):=R8.out.cell 0;clear hzb hzs hz7 hz8;clear hg4 hs4))
 refine wp_region_planN (fun w'=>Below wS4.heap.size wS4 w') [(0,true),(1,true),(2,true),(3,true),(4,true),(5,true),(6,true),(7,true),(8,true),(9,true),(10,true),(11,true),(12,false),(13,false),(14,true)] (by kernel_rfl) (by kernel_rfl) (by kernel_rfl) (by kernel_rfl) rfl (fun _ _ _ _ _ h=>h) (below_drew (below_self wS4)) (fun hHeld=>?_)
 simp only [planOps,List.filterMap_cons,List.filterMap_nil,List.getElem?_toArray,List.getElem?_cons_succ,List.getElem?_cons_zero,Option.map_some]
 iterate 3
  refine wpPlan_take (v:=?_) (by kernel_rfl) (fun wS hSw=>?_) ?_
  rotate_left
  ·(try dsimp only at hSw);go_simp;(try with_reducible rfl)
  (try simp only [Act.put,pu1,pu2,pu3])
 refine wpPlan_take (v:=?_) (by kernel_rfl) (fun wS hSw=>?_) ?_
 rotate_left
 ·have qx:=(RT.out.on hSw).cell 6 |>.trans (show (touC g (.slice AU nU cU) (.slice AL nL cL) (.map (some bM)) vS vX)[6]?=some (.map (some bM)) from rfl);go_simp;(try with_reducible rfl)
 (try simp only [Act.put,pu1,pu2,pu3])
 iterate 2
  refine wpPlan_take (v:=?_) (by kernel_rfl) (fun wS hSw=>?_) ?_
  rotate_left
  ·(try dsimp only at hSw);go_simp;(try with_reducible rfl)
  (try simp only [Act.put,pu1,pu2,pu3])
 refine wpPlan_take (v:=?_) (by kernel_rfl) (fun wS hSw=>?_) ?_
 rotate_left
 ·have qx:=(R7.out.on hSw).cell 0 |>.trans (show (cellsE E)[0]?=some (.int .i64 E.slot) from rfl);go_simp;(try with_reducible rfl)
 (try simp only [Act.put,pu1,pu2,pu3])
 refine wpPlan_take (v:=?_) (by kernel_rfl) (fun wS hSw=>?_) ?_
 rotate_left
 ·(try dsimp only at hSw);go_simp;(try with_reducible rfl)
 (try simp only [Act.put,pu1,pu2,pu3])
 refine wpPlan_take (v:=?_) (by kernel_rfl) (fun wS hSw=>?_) ?_
 rotate_left
 ·have qx:=(HM.out.on hSw).look hdi hEs;(try dsimp only at hSw);go_simp;(try with_reducible rfl)
 (try simp only [Act.put,pu1,pu2,pu3])
 iterate 3
  refine wpPlan_take (v:=?_) (by kernel_rfl) (fun wS hSw=>?_) ?_
  rotate_left
  ·(try dsimp only at hSw);go_simp;(try with_reducible rfl)
  (try simp only [Act.put,pu1,pu2,pu3])
 refine wpPlan_call (by kernel_rfl) (fun K hK=>?_)
 have hOld:=hide hHeld
 clear hHeld
 unfold Oper.wp execOp
 go_simp
 refine hK.out _ _ (hOld.out.alloc hOld.out.size _) (fun hHeld=>?_)
 clear hK K
 (try simp only [Act.put,pu1,pu2,pu3])
 refine wpPlan_call (by kernel_rfl) (fun K hK=>?_)
 have hOld:=hide hHeld
 clear hHeld
 unfold Oper.wp execOp
 go_simp
 refine hK.out _ _ (hOld.out) (fun hHeld=>?_)
 clear hK K
 (try simp only [Act.put,pu1,pu2,pu3])
 refine wpPlan_take (v:=?_) (by kernel_rfl) (fun wS hSw=>?_) ?_
 rotate_left
 ·(try dsimp only at hSw);go_simp;(try with_reducible rfl)
 (try simp only [Act.put,pu1,pu2,pu3])
 refine wpPlan_end ?_
 have HBX:=hide (HB.out.trans (hHeld.mono HB.out.size))
 have R8x:=hide (R8.out.on hHeld)
 have htd:decide ((d,E.slot)∈twiceS up (walkW up [1]))=tw:=by rw [←htw];simp
 rw [htd]
 have q8:=R8x.out.cell 0
 have q8':=q8.trans (show (nodC N (.slice A1 n1 c1) (.slice C1 m1 d1))[0]?=some (.int .i64 N.k) from rfl)
 clear htd htw q8 hHeld
 cases tw
 ·go_wp2_with fail
  go_ret
  exact BoolB.eq (by rw [HR.out];rfl) HBX.out
 ·go_wp2_with fail
  go_ret
  exact BoolB.eq (by rw [HR.out];first|rfl|simp) HBX.out
end Go.Proofs.YtpndfahgflgocaaGreatDoor

namespace Go.Proofs.YtpndfahgflgocaaGreatDoor
open Go.RowKit Plain
variable {α : Type} {E : Enc α}

def OwD (E:Enc α) (D:Nat→Prop) (w:World) (base e:Nat) (A:Option Addr) (n c:Nat) (l:List α):Prop:=∃css,w.ownsRow base e E.k (.slice A n c) n css.flatten∧CellsE E w D css l∧l.length=n∧∀b,D b→b < w.heap.size∧∀a,A=some a→b≠a.block
theorem OwD.empty (E:Enc α) (w:World) (e:Nat):OwD E (fun _=>False) (w.alloc (.cells #[] e)) w.heap.size e (some ⟨w.heap.size,0,none⟩) 0 0 [] :=
 ⟨[],World.ownsRow_lit w #[] 0 (Nat.le_refl _) (by simp [maxLen]) (by simp),⟨rfl,fun i cs x h=>by simp at h⟩,rfl,fun _ h=>h.elim⟩
theorem OwD.grown {D:Nat→Prop} {w w':World} {base e n c:Nat} {A:Option Addr} {l:List α} {r:Option Nat} (h:OwD E D w base e A n c l) (hg:w.grownBy w' r) (hne:∀g,r=some g→¬D g∧∀a,A=some a→a.block≠g):OwD E D w' base e A n c l:=by
 obtain ⟨css,hown,hc,hl,hD⟩:=h
 have hk:Kept D w w':=fun b hb=>hg.block b (hD b hb).1 (fun e=>(hne b e.symm).1 hb)
 refine ⟨css,hown.kept hg ?_,hc.mono hk (fun _ h=>h),hl,fun b hb=>⟨Nat.lt_of_lt_of_le (hD b hb).1 hg.size,(hD b hb).2⟩⟩
 cases A with
 | none=>exact .inl rfl
 | some a=>exact .inr (fun e=>(hne a.block (by rw [←e];rfl)).2 a rfl rfl)
theorem run_append_OwD {P : Program} (w : World) (base : Nat) (t ty e : TypeId) (z : Value) (k : Nat) (ht : P.underlying t = some (.slice e)) (hinfo : (P.info? e).map (fun i => (i.zero, i.size, i.bytes)) = some (some z, E.k, k)) (hzs : z.cells.size = E.k) (hk : 0 < E.k)
  (D0:Nat→Prop) (A0:Option Addr) (n c0:Nat) (l0:List α) (hown:OwD E D0 w base e A0 n c0 l0) (D:Nat→Prop) (A:Option Addr) (m c:Nat) (l1:List α) (hb:RdE E w D A m l1) (hD:∀b,D b→b < w.heap.size∧∀a,A0=some a→b≠a.block)
  (hbytes:(n+m)*k≤140737488355328) (hnm:n+m≤140737488355328) (hbase:base≤w.heap.size) :
  ∃A' c' w',(Builtin.append_ #[t,t] ty #[.slice A0 n c0,.slice A m c]).run P w=.ok (.slice A' (n+m) c') w'∧OwD E (fun b=>D0 b∨D b) w' base e A' (n+m) c' (l0++l1)∧Below base w w':=by
 obtain ⟨css,hrow,hc,hl,hD0⟩:=hown
 obtain ⟨v',w',dss,hr,h2,h3,h4,h5,h6⟩:=run_append_E (P:=P) w base t ty e z k ht hinfo hzs hk _ n css hrow D A m c l1 hb hbytes hnm hbase
 have hv:∃A' c',v'=.slice A' (n+m) c':=by
  rcases h2.2 with ⟨rfl,h0⟩|⟨g,cap,cur,rfl,_⟩
  ·exact ⟨none,0,by rw [h0]⟩
  ·exact ⟨_,_,rfl⟩
 obtain ⟨A',c',rfl⟩:=hv
 have hall:∀b,(D0 b∨D b)→b < w.heap.size∧∀a,A0=some a→b≠a.block:=fun b hb=>hb.elim (hD0 b) (hD b)
 have hkept:Kept (fun b=>D0 b∨D b) w w':=by
  intro b hb
  refine h5.block b (hall b hb).1 ?_
  intro e
  cases A0 with
  | none=>simp [Value.ownBlock] at e
  | some a =>
   have:b=a.block:=by simpa [Value.ownBlock] using e
   exact (hall b hb).2 a rfl this
 refine ⟨A',c',w',hr,⟨css++dss,h2,?_,by rw [List.length_append,hl,hb.1],fun b hb=>⟨Nat.lt_of_lt_of_le (hall b hb).1 h4.size,fun a ha e=>?_⟩⟩,h4⟩
 ·exact (hc.mono (fun b hb=>hkept b (.inl hb)) (fun _ hb=>.inl hb)).append (h3.mono (fun b hb=>hkept b (.inr hb)) (fun _ hb=>.inr hb))
 ·subst ha
  rcases h6 with h6|h6
  ·cases A0 with
   | none=>simp [Value.ownBlock] at h6
   | some a0 =>
    have e2:a.block=a0.block:=by simpa [Value.ownBlock] using h6
    exact (hall b hb).2 a0 rfl (e.trans e2)
  ·have h7:=h6 a.block rfl
   have h8:=(hall b hb).1
   omega
theorem wpList_append_OwD {P : Program} (w : World) {ops : Array Oper} {rest : List Oper} {o : Oper} {a : Act} {Q : Exit → Act → World → Prop} (hgd : o.guard = none) (s x : Operand) (t : TypeId)
  (ho:o.op=.call {callee:=.builtin .append,args:=#[s,x],argTypes:=#[t,t]})
  (base:Nat) (e:TypeId) (z:Value) (k:Nat) (ht:P.underlying t=some (.slice e)) (hinfo:(P.info? e).map (fun i=>(i.zero,i.size,i.bytes))=some (some z,E.k,k)) (hzs:z.cells.size=E.k) (hk:0 < E.k)
  (D0:Nat→Prop) (A0:Option Addr) (n c0:Nat) (l0:List α) (hs:a.eval s=.slice A0 n c0) (hown:OwD E D0 w base e A0 n c0 l0) (D:Nat→Prop) (A:Option Addr) (m c:Nat) (l1:List α) (hx:a.eval x=.slice A m c) (hb:RdE E w D A m l1) (hD:∀b,D b→b < w.heap.size∧∀a,A0=some a→b≠a.block)
  (N:Nat) (hN:n+m=N) (hbytes:N*k≤140737488355328) (hnm:N≤140737488355328) (hbase:base≤w.heap.size)
  (h:∀A' c' w',OwD E (fun b=>D0 b∨D b) w' base e A' N c' (l0++l1)→Below base w w'→wpList P ops Q rest (a.put o.dst (.slice A' N c')) w'):wpList P ops Q (o::rest) a w:=by
 subst hN
 refine wpList_plain hgd fun K hK=>?_
 obtain ⟨A',c',w',hr,h2,h3⟩:=run_append_OwD (P:=P) w base t o.type e z k ht hinfo hzs hk D0 A0 n c0 l0 hown D A m c l1 hb hD hbytes hnm hbase
 unfold Oper.wp execOp
 simp only [ho,resolve,invoke,builtin,Sem.run_bind,Sem.run_pure,Result.andThen_ok,List.map_toArray,List.map_cons,List.map_nil,hs,hx,hr]
 exact hK _ _ (h A' c' w' h2 h3)
theorem OwD.own {D:Nat→Prop} {w:World} {base e n c:Nat} {A:Option Addr} {l:List α} (h:OwD E D w base e A n c l):OwE E w base e A n c l:=by
 obtain ⟨css,h1,h2,h3,h4⟩:=h
 exact ⟨css,h1,h2.mono (fun _ _=>rfl) (fun b hb=>⟨⟨(h4 b hb).1,fun _ _ _ _=>rfl⟩,(h4 b hb).2⟩),h3⟩
theorem OwD.dom {D D':Nat→Prop} {w:World} {base e n c:Nat} {A:Option Addr} {l:List α} (h:OwD E D w base e A n c l) (h1:∀b,D b→D' b) (h2:∀b,D' b→D b):OwD E D' w base e A n c l:=by
 obtain ⟨css,k1,k2,k3,k4⟩:=h
 exact ⟨css,k1,k2.mono (fun _ _=>rfl) h1,k3,fun b hb=>k4 b (h2 b hb)⟩
theorem OwD.nil_ (E:Enc α) {D:Nat→Prop} (w:World) (base e:Nat) (hD:∀b,D b→b < w.heap.size):OwD E D w base e none 0 0 [] :=
 ⟨[],⟨by simp,.inl ⟨rfl,rfl⟩⟩,⟨rfl,fun i cs x h=>by simp at h⟩,rfl,fun b hb=>⟨hD b hb,fun a ha=>by cases ha⟩⟩
theorem OwD.lt {D:Nat→Prop} {w:World} {base e n c:Nat} {A:Option Addr} {l:List α} (h:OwD E D w base e A n c l):∀a,A=some a→a.block < w.heap.size:=by
 obtain ⟨css,h1,-⟩:=h
 intro a ha
 rcases h1.2 with ⟨h2,-⟩|⟨g,cap,cur,he,-,hg,-⟩
 ·simp only [Value.slice.injEq] at h2
  rw [h2.1] at ha;cases ha
 ·simp only [Value.slice.injEq] at he
  rw [he.1] at ha
  cases ha
  rcases Nat.lt_or_ge g w.heap.size with hlt|hge
  ·exact hlt
  ·rw [Array.getElem?_eq_none hge] at hg;cases hg
end Go.Proofs.YtpndfahgflgocaaGreatDoor

namespace Go.Proofs.YtpndfahgflgocaaGreatDoor
open Go.RowKit Plain
variable {α : Type} {E : Enc α}

theorem OwD.len {D:Nat→Prop} {w:World} {base e:Nat} {A:Option Addr} {n c:Nat} {l:List α} (h:OwD E D w base e A n c l):l.length=n:=by
 obtain ⟨css,-,-,h3,-⟩:=h
 exact h3
theorem OwD.row {D:Nat→Prop} {w:World} {base e g n c:Nat} {l:List α} (h:OwD E D w base e (some ⟨g,0,none⟩) n c l):∃css rest,RowL w g e (css.flatten++rest)∧CellsE E w D css l∧css.flatten.length=n*E.k:=by
 obtain ⟨css,hown,hc,hl,hD⟩:=h
 have h1:=hown.1
 rcases hown.2 with ⟨h2,-⟩|⟨g',cap,cur,he,-,hg,-,-,-,ht⟩
 ·simp at h2
 ·simp only [Value.slice.injEq,Option.some.injEq,Addr.mk.injEq,and_true,true_and] at he
  obtain ⟨rfl,rfl⟩:=he
  refine ⟨css,cur.toList.drop (n*E.k),?_,hc,h1⟩
  unfold RowL
  rw [hg,←ht,List.take_append_drop]
theorem OwD.base {D:Nat→Prop} {w:World} {base e g n c:Nat} {l:List α} (h:OwD E D w base e (some ⟨g,0,none⟩) n c l):base≤g∧g < w.heap.size:=by
 obtain ⟨css,hown,-⟩:=h
 exact World.ownsRow.lt hown g rfl
theorem flat_len' : ∀ {css : List (List Value)} {k : Nat}, (∀ cs ∈ css, cs.length = k) → css.flatten.length = css.length * k
 | [],k,_=>by simp
 | c::r,k,h=>by
  have h1:=flat_len' (css:=r) (k:=k) (fun x hx=>h x (List.mem_cons_of_mem _ hx))
  rw [List.flatten_cons,List.length_append,h c List.mem_cons_self,h1,List.length_cons,Nat.succ_mul]
  omega
theorem flat_at {k:Nat}:∀ {css:List (List Value)} (_:∀cs∈css,cs.length=k) (j:Nat) (cs:List Value),css[j]?=some cs→(css.flatten.drop (j*k)).take k=cs:=by
 intro css
 induction css with
 | nil=>intro _ j cs h;simp at h
 | cons c0 r ih =>
  intro hk j cs h
  have h0:c0.length=k:=hk c0 List.mem_cons_self
  cases j with
  | zero =>
   obtain rfl:c0=cs:=by simpa using h
   rw [Nat.zero_mul,List.drop_zero,List.flatten_cons,List.take_left' h0]
  | succ j =>
   have:=ih (fun c hc=>hk c (List.mem_cons_of_mem _ hc)) j cs (by simpa using h)
   rw [List.flatten_cons,show (j+1)*k=c0.length+j*k from by rw [Nat.succ_mul,h0];omega,List.drop_append,List.drop_of_length_le (by omega),Nat.add_sub_cancel_left,List.nil_append]
   exact this
theorem splice_app {L R:List Value} {p:Nat} {cs:List Value} (h:p+cs.length≤L.length):splice (L++R) p cs=splice L p cs++R:=by
 unfold splice
 rw [List.take_append_of_le_length (by omega),List.drop_append_of_le_length (by omega)]
 simp only [List.append_assoc]
theorem OwD.put {D:Nat→Prop} {w w':World} {base e g n c j:Nat} {l:List α} {x:α} {cs cur:List Value} (h:OwD E D w base e (some ⟨g,0,none⟩) n c l) (hj:j < n) (hx:E.R w D cs x) (hcur:RowL w g e cur) (hr:RowL w' g e (splice cur (j*E.k) cs)) (hg:w.grownBy w' (some g)):OwD E D w' base e (some ⟨g,0,none⟩) n c (l.set j x):=by
 obtain ⟨css,hown,hc,hl,hD⟩:=h
 have hlen:=hown.1
 have hcs:cs.length=E.k:=E.len hx
 have hall:∀d∈css,d.length=E.k:=hc.lens
 have hcl:css.length=n:=by rw [hc.1,hl]
 have hk:Kept D w w':=fun b hb=>hg.block b (hD b hb).1 (fun e=>(hD b hb).2 _ rfl (Option.some.inj e))
 rcases hown.2 with ⟨h2,-⟩|⟨g',cap,arr,he,hbg,hga,hnc,hcm,hsz,ht⟩
 ·simp at h2
 simp only [Value.slice.injEq,Option.some.injEq,Addr.mk.injEq,and_true,true_and] at he
 obtain ⟨rfl,rfl⟩:=he
 have ecur:cur=arr.toList:=by
  have:=hga.symm.trans hcur
  injection this with this
  injection this with this
  rw [this]
 have hjk:j*E.k+E.k≤n*E.k:=by
  have:(j+1)*E.k≤n*E.k:=Nat.mul_le_mul_right _ (by omega)
  rw [Nat.succ_mul] at this
  exact this
 have ncap:n*E.k≤c*E.k:=Nat.mul_le_mul_right _ hnc
 have esp:splice cur (j*E.k) cs=(css.set j cs).flatten++arr.toList.drop (n*E.k):=by
  have e1:cur=css.flatten++arr.toList.drop (n*E.k):=by rw [ecur,←ht,List.take_append_drop]
  rw [e1,splice_app (by rw [hlen,hcs];exact hjk),flat_put hall j cs hcs (by omega)]
 rw [esp] at hr
 have hall':∀d∈css.set j cs,d.length=E.k:=fun d hd=>by
  rcases List.mem_or_eq_of_mem_set hd with h1|h1
  ·exact hall d h1
  ·rw [h1];exact hcs
 have hfl:(css.set j cs).flatten.length=n*E.k:=by rw [flat_len' hall',List.length_set,hcl]
 have hal:arr.toList.length=c*E.k:=by rw [Array.length_toList,hsz]
 refine ⟨css.set j cs,⟨hfl,.inr ⟨g,c,_,rfl,hbg,hr,hnc,hcm,?_,?_⟩⟩,⟨by rw [List.length_set,List.length_set,hc.1],fun i ds y hi hy=>?_⟩,by rw [List.length_set,hl],fun b hb=>⟨Nat.lt_of_lt_of_le (hD b hb).1 hg.size,(hD b hb).2⟩⟩
 ·rw [List.size_toArray,List.length_append,hfl,List.length_drop,hal]
  omega
 ·simp only [List.take_left' hfl]
 ·rw [List.getElem?_set] at hi hy
  by_cases hij:j=i
  ·subst hij
   rw [if_pos rfl,if_pos (by omega)] at hi hy
   cases hi;cases hy
   exact E.mono hx hk (fun _ h=>h)
  ·rw [if_neg hij] at hi hy
   exact E.mono (hc.2 i ds y hi hy) hk (fun _ h=>h)
theorem OwD.at {D:Nat→Prop} {w:World} {base e g n c j:Nat} {l:List α} {x:α} (h:OwD E D w base e (some ⟨g,0,none⟩) n c l) (hx:l[j]?=some x):∃cur cs,RowL w g e cur∧E.R w D cs x∧(cur.drop (j*E.k)).take E.k=cs∧j*E.k+E.k≤cur.length:=by
 obtain ⟨css,rest,hr,hc,hf⟩:=h.row
 have hn:=h.len
 have hjn:j < n:=by have:=(List.getElem?_eq_some_iff.1 hx).1;omega
 have hall:∀d∈css,d.length=E.k:=hc.lens
 obtain ⟨cs,hcs⟩:∃cs,css[j]?=some cs:=⟨_,List.getElem?_eq_getElem (by rw [hc.1];omega)⟩
 have hR:=hc.2 j cs x hcs hx
 have hjk:j*E.k+E.k≤n*E.k:=by
  have:(j+1)*E.k≤n*E.k:=Nat.mul_le_mul_right _ (by omega)
  rw [Nat.succ_mul] at this
  exact this
 refine ⟨_,cs,hr,hR,?_,by rw [List.length_append,hf];omega⟩
 have hc0:cs.length=E.k:=E.len hR
 have hfl:=flat_at hall j cs hcs
 rw [List.drop_append_of_le_length (by omega),List.take_append_of_le_length (by rw [List.length_drop];omega)]
 exact hfl
theorem OwD.base8 {α:Type} {E:Enc α} {D:Nat→Prop} {w:World} {base e n c:Nat} {A:Option Addr} {l:List α} (h:OwD E D w base e A n c l):∀a,A=some a→base≤a.block:=by
 intro a ha
 obtain ⟨css,hown,-⟩:=h
 subst ha
 exact (World.ownsRow.lt hown a.block rfl).1
theorem OwD.rd {α:Type} {E:Enc α} {D:Nat→Prop} {w:World} {base e n c:Nat} {A:Option Addr} {l:List α} (h:OwD E D w base e A n c l):RdE E w (Under w.heap.size) A n l:=(h.own.rd rfl).plain
theorem OwD.some_ {α:Type} {E:Enc α} {D:Nat→Prop} {w:World} {base e n c:Nat} {A:Option Addr} {l:List α} (h:OwD E D w base e A n c l) (hn:0 < n):∃g,A=some ⟨g,0,none⟩∧base≤g∧g < w.heap.size:=by
 obtain ⟨css,hown,-⟩:=h
 rcases hown.2 with ⟨-,h0⟩|⟨g,cap,cur,he,hb,hg,-⟩
 ·omega
 ·simp only [Value.slice.injEq] at he
  exact ⟨g,he.1,hb,RowL.lt (cs:=cur.toList) (by unfold RowL;exact hg)⟩
theorem OwD.cap_ {D:Nat→Prop} {w:World} {base e n c:Nat} {A:Option Addr} {l:List α} (h:OwD E D w base e A n c l):n≤c:=by
 obtain ⟨css,hown,-⟩:=h
 rcases hown.2 with ⟨h1,h0⟩|⟨g,cap,cur,he,-,-,h1,-⟩
 ·omega
 ·simp only [Value.slice.injEq] at he
  rw [he.2.2];exact h1
theorem OwE.cap_ {w:World} {base e n c:Nat} {A:Option Addr} {l:List α} (h:OwE E w base e A n c l):n≤c:=by
 obtain ⟨css,hown,-⟩:=h
 rcases hown.2 with ⟨h1,h0⟩|⟨g,cap,cur,he,-,-,h1,-⟩
 ·omega
 ·simp only [Value.slice.injEq] at he
  rw [he.2.2];exact h1
end Go.Proofs.YtpndfahgflgocaaGreatDoor

