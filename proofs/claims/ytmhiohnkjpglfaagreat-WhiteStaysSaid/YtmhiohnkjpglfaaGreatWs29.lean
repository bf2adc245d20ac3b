import Derived.Test.YtmhiohnkjpglfaaGreatWs26
import Derived.Test.YtmhiohnkjpglfaaGreatWs28
import Derived.Test.YtmhiohnkjpglfaaGreatWs7
import Derived.DeepKeys4
import Derived.Test.YtmhiohnkjpglfaaGreatWs23
import Derived.Test.YtmhiohnkjpglfaaGreatWs5

namespace Go.Proofs.YtmhiohnkjpglfaaGreat
open Go.RowKit Plain

def cutU (keep:Int→EntV→Bool) (up:List NodV):List NodV:=up.mapIdx (fun j x=>{x with ents:=x.ents.filter (keep ((j:Int)+1))})
theorem cutW_len (keep:Int→EntV→Bool) (up:List NodV):(cutU keep up).length=up.length:=by simp [cutU]
theorem cutW_at (keep:Int→EntV→Bool) (up:List NodV) (i:Int):nodAt (cutU keep up) i={nodAt up i with ents:=(nodAt up i).ents.filter (keep i)}:=by
 unfold nodAt
 rw [cutW_len]
 by_cases hc:1≤i∧i≤(up.length:Int)
 ·rw [if_pos hc,if_pos hc]
  unfold cutU
  rw [List.getElem?_mapIdx]
  have e:(((i - 1).toNat:Nat):Int)+1=i:=by omega
  rw [e]
  cases up[(i - 1).toNat]? <;> simp [nod0]
 ·rw [if_neg hc,if_neg hc]
  simp [nod0]
theorem cutW_dir (keep:Int→EntV→Bool) (up:List NodV) (i:Int):isDir (cutU keep up) i=isDir up i:=by
 unfold isDir
 rw [cutW_at]
def OnlyW (keep:Int→EntV→Bool) (up:List NodV):Prop:=∀i e,e∈(nodAt up i).ents→keep i e=false→(nodAt up e.ino).k=4
theorem cutW_kids {keep:Int→EntV→Bool} {up:List NodV} (h:OnlyW keep up) (i:Int):kidsW (cutU keep up) i=kidsW up i:=by
 unfold kidsW
 rw [cutW_at]
 show ((nodAt up i).ents.filter (keep i)).filter _=_
 rw [show (fun e:EntV=>isDir (cutU keep up) e.ino)=(fun e=>isDir up e.ino) from funext fun e=>cutW_dir keep up e.ino,List.filter_filter]
 refine List.filter_congr fun e he=>?_
 cases hk:keep i e with
 | true=>simp
 | false =>
  have h4:=h i e he hk
  have:isDir up e.ino=false:=by unfold isDir;rw [h4];rfl
  rw [this]
  rfl

abbrev StS:=List WayV×List (Int×Int)
def oneS (d:Int) (p:Nat) (s:StS) (x:EntV):StS:=if cameW s.1 x.ino then (s.1,s.2++[(d,x.slot)]) else (s.1++[⟨x.ino,p,x.name⟩],s.2)
def visitS (ns:List NodV) (p:Nat) (s:StS):StS:=match s.1[p]? with
 | none=>s
 | some y=>(kidsW ns y.ino).foldl (oneS y.ino p) s
def runS (ns : List NodV) : Nat → Nat → StS → StS
 | 0,_,s=>s
 | f+1,p,s=>if p < s.1.length then runS ns f (p+1) (visitS ns p s) else s
def rootS (ns:List NodV) (s:StS) (i:Int):StS:=if isDir ns i&&!cameW s.1 i then runS ns (ns.length - s.1.length) s.1.length (s.1++[⟨i,-1,[]⟩],s.2) else s
def walkS (ns:List NodV) (ff:List Int):StS:=ff.foldl (rootS ns) ([],[])
def mapS (ns:List NodV) (s:StW):StS:=(s.1,twiceS ns s)
theorem fold_slot (ns : List NodV) (d : Int) (p : Nat) : ∀ (xs : List (EntV × Nat)) (s : StW), (∀ x ∈ xs, (nodAt ns d).ents[x.2]? = some x.1) → mapS ns (xs.foldl (oneW d p) s) = (xs.map (fun x => x.1)).foldl (oneS d p) (mapS ns s)
 | [],_,_=>rfl
 | x::r,s,h=>by
  rw [List.foldl_cons,List.map_cons,List.foldl_cons,fold_slot ns d p r _ (fun y hy=>h y (List.mem_cons_of_mem _ hy))]
  congr 1
  unfold oneW oneS mapS
  show _=if cameW s.1 x.1.ino=true then _ else _
  split
  ·show (s.1,twiceS ns (s.1,s.2++[(d,x.2)]))=(s.1,twiceS ns s++[(d,x.1.slot)])
   unfold twiceS
   rw [List.map_append]
   congr 2
   simp [slotQ,h x List.mem_cons_self]
  ·rfl
theorem visit_slot (ns:List NodV) (p:Nat) (s:StW):mapS ns (visitW ns p s)=visitS ns p (mapS ns s):=by
 unfold visitW visitS
 show _=match s.1[p]? with|none=>mapS ns s|some y=>_
 cases hy:s.1[p]? with
 | none=>rfl
 | some y =>
  show mapS ns ((dirsOf ns (nodAt ns y.ino).ents).foldl (oneW y.ino p) s)=(kidsW ns y.ino).foldl (oneS y.ino p) (mapS ns s)
  rw [fold_slot ns y.ino p _ s,dirs_kids]
  ·rfl
  ·intro x hx
   unfold dirsOf at hx
   have h1:=(List.mem_filter.1 hx).1
   have h2:=List.mem_zipIdx_iff_getElem?.1 h1
   exact h2
theorem run_slot (ns : List NodV) : ∀ (f p : Nat) (s : StW), mapS ns (runW ns f p s) = runS ns f p (mapS ns s)
 | 0,_,_=>rfl
 | f+1,p,s=>by
  unfold runW runS
  show _=if p < s.1.length then _ else _
  split
  ·rw [run_slot ns f,visit_slot]
  ·rfl
theorem root_slot (ns:List NodV) (s:StW) (i:Int):mapS ns (rootW ns s i)=rootS ns (mapS ns s) i:=by
 unfold rootW rootS
 show _=if (isDir ns i&&!cameW s.1 i)=true then _ else _
 split
 ·rw [run_slot]
  rfl
 ·rfl
theorem walk_slot (ns:List NodV) (ff:List Int):mapS ns (walkW ns ff)=walkS ns ff:=by
 have key:∀(ff:List Int) (s:StW),mapS ns (ff.foldl (rootW ns) s)=ff.foldl (rootS ns) (mapS ns s):=by
  intro ff
  induction ff with
  | nil=>intro s;rfl
  | cons i r ih=>intro s;rw [List.foldl_cons,List.foldl_cons,ih,root_slot]
 exact key ff ([],[])
theorem cutW_walk {keep:Int→EntV→Bool} {up:List NodV} (h:OnlyW keep up) (ff:List Int):(walkW (cutU keep up) ff).1=(walkW up ff).1∧twiceS (cutU keep up) (walkW (cutU keep up) ff)=twiceS up (walkW up ff):=by
 have e1:visitS (cutU keep up)=visitS up:=funext fun p=>funext fun s=>by
  unfold visitS
  cases s.1[p]? with
  | none=>rfl
  | some y=>simp only [cutW_kids h]
 have e2:∀f p s,runS (cutU keep up) f p s=runS up f p s:=by
  intro f
  induction f with
  | zero=>intro p s;rfl
  | succ f ih=>intro p s;unfold runS;rw [e1,ih]
 have e3:rootS (cutU keep up)=rootS up:=funext fun s=>funext fun i=>by unfold rootS;rw [cutW_dir,e2,cutW_len]
 have e4:walkS (cutU keep up) ff=walkS up ff:=by unfold walkS;rw [e3]
 have h1:=walk_slot (cutU keep up) ff
 have h2:=walk_slot up ff
 rw [e4,←h2] at h1
 exact ⟨congrArg (fun s:StS=>s.1) h1,congrArg (fun s:StS=>s.2) h1⟩
theorem cutW_part (keep:Int→EntV→Bool) (up:List NodV) (ls:List (List NodV)) (vl:List (Int×Int)) (i:Int) (nm:List UInt8):partV (cutU keep up) ls vl i nm=partV up ls vl i nm:=by
 unfold partV opq hasR
 rw [cutW_at]
theorem cutW_root (keep:Int→EntV→Bool) (up:List NodV) (ls:List (List NodV)):rootV (cutU keep up) ls=rootV up ls:=by
 unfold rootV opqD opq
 rw [cutW_at]
theorem cutW_tree (keep:Int→EntV→Bool) (up:List NodV) (ls:List (List NodV)) (l:List WayV):treeV (cutU keep up) ls l=treeV up ls l:=by
 unfold treeV
 congr 1
 funext vs x
 congr 2
 unfold wayView
 rw [cutW_root,cutW_part]
end Go.Proofs.YtmhiohnkjpglfaaGreat

namespace Go.Proofs.YtmhiohnkjpglfaaGreat
open Go.RowKit Go.Shelf Plain Go.Maps

set_option maxRecDepth 100000 in
theorem p2nam_laid:laidOutB Tryz.prog=true:=by kernel_rfl
set_option maxRecDepth 100000 in
theorem p2namKey:Keyed Tryz.prog 110:=Keyed.of_law (deep_law_laid p2nam_laid (m:=4) (by omega) (of_decide_eq_true (by kernel_rfl)) (by kernel_rfl) (by kernel_rfl))
set_option maxRecDepth 100000 in
theorem p2nam_size1:decide (1≤Tryz.prog.types.size)=true:=by kernel_rfl
theorem p2namSize:∃k,Tryz.prog.types.size+1=k+1+1:=⟨Tryz.prog.types.size - 1,by have h:=of_decide_eq_true p2nam_size1;revert h;generalize Tryz.prog.types.size=z;intro h;omega⟩
set_option maxRecDepth 100000 in
theorem p2nam_cells:Tryz.prog.cellsOf 110=2:=by kernel_rfl
set_option maxRecDepth 100000 in
theorem p2nam_kt:Tryz.prog.keyType 110=true:=by kernel_rfl
set_option maxRecDepth 100000 in
theorem p2int_cells:Tryz.prog.cellsOf 3=1:=by kernel_rfl
set_option maxRecDepth 100000 in
set_option maxHeartbeats 800000 in
theorem p2nam_key {a b:Int} (ha:i64 a) (hb:i64 b):∃kl,keyOf Tryz.prog 110 (.agg #[.int .i64 a,.int .i64 b])=some kl:=by
 have h1:=i64_wf ha
 have h2:=i64_wf hb
 obtain ⟨k,hk⟩:=p2namSize
 refine ⟨.string (keyBytes [.int .i64 a,.int .i64 b]),?_⟩
 unfold keyOf
 simp only [Tryz.underlying110]
 have hfm:Value.formed Tryz.prog 110 (Value.agg #[Value.int IntKind.i64 a,Value.int IntKind.i64 b])=true:=by
  simp only [Value.formed,Tryz.underlying110]
  rw [p2nam_cells]
  rfl
 rw [p2nam_kt,hfm,hk,show (Value.agg #[Value.int IntKind.i64 a,Value.int IntKind.i64 b]).cells.toList=[Value.int IntKind.i64 a,Value.int IntKind.i64 b] from rfl]
 have hk1:∀x:Int,(Lit.int IntKind.i64 x).wf=true→Tryz.prog.keyLits (k+1) 3 [Value.int IntKind.i64 x]=some [Lit.int IntKind.i64 x]:=by
  intro x hx
  unfold Program.keyLits
  simp only [Tryz.underlying3]
  rw [if_pos ⟨trivial,hx⟩]
 have hk2:Tryz.prog.keyLits (k+1+1) 110 [Value.int IntKind.i64 a,Value.int IntKind.i64 b]=some [Lit.int IntKind.i64 a,Lit.int IntKind.i64 b]:=by
  unfold Program.keyLits
  simp only [Tryz.underlying110]
  rw [if_pos (by rw [p2nam_cells];rfl)]
  simp only [p2int_cells,show List.range 2=[0,1] from rfl,List.mapM_cons,List.mapM_nil,Nat.zero_mul,Nat.one_mul,List.drop_zero,List.drop_succ_cons,List.take_succ_cons,List.take_zero,hk1 a h1,hk1 b h2]
  rfl
 rw [hk2]
 rfl
def SetP (w:World) (b c:Nat) (f:Int×Int→Bool):Prop:=∃D:DataW Unit,w.ownsMap Tryz.prog 110 unitElem b c D∧∀x y kl,i64 x→i64 y→keyOf Tryz.prog 110 (.agg #[.int .i64 x,.int .i64 y])=some kl→Maps.has D kl=f (x,y)
section
variable {w w' : World} {b c : Nat} {f : Int × Int → Bool}
theorem SetP.made (w:World):SetP (w.alloc (.map #[] 0)) w.heap.size 0 (fun _=>false):=⟨.map [],World.ownsMap_made w _ _ _,fun _ _ _ _ _ _=>rfl⟩
theorem SetP.lt (h:SetP w b c f):b < w.heap.size:=by obtain ⟨D,h1,h2⟩:=h;exact h1.lt
theorem SetP.kept {row:Option Nat} (h:SetP w b c f) (hg:w.grownBy w' row) (hne:some b≠row):SetP w' b c f:=by obtain ⟨D,h1,h2⟩:=h;exact ⟨D,h1.kept hg hne,h2⟩
theorem SetP.on (h:SetP w b c f) (hb:Below w.heap.size w w'):SetP w' b c f:=h.kept (grown_below hb) (by simp)
theorem SetP.eq {g:Int×Int→Bool} (h:SetP w b c f) (e:f=g):SetP w b c g:=e ▸ h
theorem SetP.obj (h:SetP w b c f):∃o:Obj,w.heap[b]?=some o∧(∀x,o≠.deferred x)∧o.isCells=false:=by
 obtain ⟨D,⟨es,clock,h1,_⟩,h2⟩:=h
 exact ⟨_,h1,(fun x e=>by cases e),rfl⟩
theorem SetP.look (h:SetP w b c f) {x y:Int} (hx:i64 x) (hy:i64 y):(Instr.lookup 99 (.map (some b)) (.agg #[.int .i64 x,.int .i64 y]) true).run Tryz.prog w=.ok (.tuple #[.agg #[],.bool (f (x,y))]) w:=by
 obtain ⟨D,h1,h2⟩:=h
 obtain ⟨kl,hkl⟩:=p2nam_key hx hy
 obtain ⟨v,ps,hrun,hv⟩:=h1.look_ok (t:=99) (e:=161) p2namKey Tryz.underlying99 (unit_zero w) unitElem_mk hkl
 obtain ⟨rfl,-⟩:=unitElem_inv hv
 rw [hrun,h2 x y kl hx hy hkl]
theorem SetP.put (h:SetP w b c f) {x y:Int} (hx:i64 x) (hy:i64 y) (hc:c < maxLen):∃w',(Instr.mapUpdate 99 (.map (some b)) (.agg #[.int .i64 x,.int .i64 y]) (.agg #[])).run Tryz.prog w=.ok () w'∧SetP w' b (c+1) (fun q=>f q||decide (q=(x,y)))∧w.grownBy w' (some b):=by
 obtain ⟨D,h1,h2⟩:=h
 obtain ⟨kl,hkl⟩:=p2nam_key hx hy
 obtain ⟨w',hrun,h3,h4⟩:=h1.update (t:=99) (e:=161) p2namKey Tryz.underlying99 hc hkl unitElem_mk
 have hm:Maps.IsMap D:=h1.isMap
 have hk:WideAt.IsKeyLit kl:=p2namKey.key hkl
 refine ⟨w',hrun,⟨_,h3,fun a d kl' ha hd hkl'=>?_⟩,h4⟩
 by_cases e:(a,d)=(x,y)
 ·cases e
  rw [hkl] at hkl'
  cases hkl'
  rw [has_put_same hm hk]
  simp
 ·have hne:kl'≠kl:=fun e'=>e (by
   subst e'
   have:=p2namKey.inj hkl' hkl
   simpa using this)
  rw [has_put_other hne,h2 a d kl' ha hd hkl']
  simp [e]
end
end Go.Proofs.YtmhiohnkjpglfaaGreat

namespace Go.Proofs.YtmhiohnkjpglfaaGreat
open Go.RowKit Go.Shelf Plain

def DirQ (ns:List NodV) (q:Int×Nat):Prop:=∃e,(nodAt ns q.1).ents[q.2]?=some e∧isDir ns e.ino=true
theorem visit_dirq {ns:List NodV} {p:Nat} {s:StW} (h:∀q∈s.2,DirQ ns q):∀q∈(visitW ns p s).2,DirQ ns q:=by
 unfold visitW
 split
 ·exact h
 ·rename_i y _
  refine foldl_keep (P:=fun s:StW=>∀q∈s.2,DirQ ns q) _ _ h (fun s x hx hs=>?_)
  unfold oneW
  split
  ·intro q hq
   rcases List.mem_append.1 hq with hq|hq
   ·exact hs q hq
   ·rw [List.mem_singleton] at hq
    subst hq
    unfold dirsOf at hx
    obtain ⟨h1,h2⟩:=List.mem_filter.1 hx
    have h3:=List.mem_zipIdx_iff_getElem?.1 h1
    exact ⟨x.1,h3,h2⟩
  ·exact hs
theorem run_dirq {ns : List NodV} : ∀ (f p : Nat) (s : StW), (∀ q ∈ s.2, DirQ ns q) → ∀ q ∈ (runW ns f p s).2, DirQ ns q
 | 0,_,_,h=>h
 | f+1,p,s,h=>by
  unfold runW
  split
  ·exact run_dirq f (p+1) _ (visit_dirq h)
  ·exact h
theorem walk_dirq (ns:List NodV) (ff:List Int):∀q∈(walkW ns ff).2,DirQ ns q :=
 foldl_keep (P:=fun s:StW=>∀q∈s.2,DirQ ns q) _ _ (by simp) (fun s i _ hs=>by
  unfold rootW
  split
  ·exact run_dirq _ _ _ hs
  ·exact hs)
theorem rise_lt {l:List EntV} (h:RiseE l l.length):∀(j i:Nat) (a b:EntV),i < j→l[i]?=some a→l[j]?=some b→a.slot < b.slot:=by
 intro j
 induction j with
 | zero=>intro i a b hi;omega
 | succ j ih =>
  intro i a b hij ha hb
  have hjl:=(List.getElem?_eq_some_iff.1 hb).1
  obtain ⟨c,hc⟩:∃c,l[j]?=some c:=⟨_,List.getElem?_eq_getElem (by omega)⟩
  have h1:=(h (j+1) b hjl hb).2.2 c (by omega) (by simpa using hc)
  by_cases hji:i=j
  ·subst hji
   rw [ha] at hc
   cases hc
   exact h1
  ·have:=ih i a c (by omega) ha hc
   omega
theorem rise_one {l:List EntV} (h:RiseE l l.length) {i j:Nat} {a b:EntV} (ha:l[i]?=some a) (hb:l[j]?=some b) (hs:a.slot=b.slot):a=b:=by
 rcases Nat.lt_trichotomy i j with h1|h1|h1
 ·have:=rise_lt h j i a b h1 ha hb;omega
 ·subst h1
  rw [ha] at hb
  exact Option.some.inj hb
 ·have:=rise_lt h i j b a h1 hb ha;omega
theorem again_kind {up:List NodV} (hup:FewU up) {d:Int} {x:List UInt8} {e:EntV} (h:firstB up d x=some e) (ht:(d,e.slot)∈twiceS up (walkW up [1])):(nodAt up e.ino).k=1:=by
 obtain ⟨⟨d',k⟩,hq,hs⟩:=List.mem_map.1 ht
 obtain ⟨e',he',hd'⟩:=walk_dirq up [1] _ hq
 unfold slotQ at hs
 simp only at he' hs
 obtain ⟨rfl,hs2⟩:=Prod.mk.injEq .. ▸ hs
 rw [he',Option.getD_some] at hs2
 obtain ⟨-,-,h3⟩:=firstB_use h
 have h4:e∈(nodAt up d').ents:=by
  unfold entB at h3
  split at h3
  ·exact h3
  ·cases h3
 obtain ⟨i,hil,hie⟩:=List.mem_iff_getElem.1 h4
 have hr:=(nodAt_plain hup.2 d').1
 have:=rise_one hr (by rw [List.getElem?_eq_getElem hil,hie]) he' hs2.symm
 subst this
 simpa [isDir] using hd'
def touC (g:GeoQ) (U L m S X:Value):List Value:=[.int .i64 g.a,.int .i64 g.b,.int .i64 g.c,.int .i64 g.d,U,L,m,S,X]
set_option maxRecDepth 100000 in
theorem stp_agg:∀w,(isAgg 98).run Tryz.prog w=.ok true w:=fun w=>by kernel_rfl
set_option maxRecDepth 100000 in
theorem stp_size:∀w,(Go.sizeOf 98).run Tryz.prog w=.ok 3 w:=fun w=>by kernel_rfl
set_option maxRecDepth 100000 in
theorem shn_agg:∀w,(isAgg 37).run Tryz.prog w=.ok true w:=fun w=>by kernel_rfl
set_option maxRecDepth 100000 in
theorem shn_size:∀w,(Go.sizeOf 37).run Tryz.prog w=.ok 4 w:=fun w=>by kernel_rfl
def shnC (x:ShnV):List Value:=[.string ⟨x.1.toArray⟩,.int .i64 x.2.1,.int .i64 x.2.2.1,.int .i64 x.2.2.2]
theorem shnC_one (x:ShnV):∀v∈shnC x,v.oneCell'=true:=by simp [shnC,Value.oneCell']
def shnEn : Enc ShnV where
 k:=4
 R:=fun _ _ cs x=>cs=shnC x
 len:=fun h=>by rw [h];rfl
 one:=fun h=>by rw [h];exact shnC_one _
 mono:=fun h _ _=>h
abbrev RawS:=Int×(Option Addr×Nat×Nat)×List UInt8
def rawC (x:RawS):List Value:=[.int .i64 x.1,.slice x.2.1.1 x.2.1.2.1 x.2.1.2.2,.string ⟨x.2.2.toArray⟩]
theorem rawC_one (x:RawS):∀v∈rawC x,v.oneCell'=true:=by simp [rawC,Value.oneCell']
def rawEn : Enc RawS where
 k:=3
 R:=fun _ _ cs x=>cs=rawC x
 len:=fun h=>by rw [h];rfl
 one:=fun h=>by rw [h];exact rawC_one _
 mono:=fun h _ _=>h
set_option maxRecDepth 100000 in
set_option maxHeartbeats 8000000 in
theorem Again_any {g:GeoQ} {AU AL:Option Addr} {nU cU nL cL B gT bM cM:Nat} {vS vX:Value} {up:List NodV} {d:Int} {nm:List UInt8} {r:Bool} (hr:againS up d nm=r) (w:World) (ht:RowL w gT 102 (touC g (.slice AU nU cU) (.slice AL nL cL) (.map (some bM)) vS vX)) (hm:SetP w bM cM (fun q=>(twiceS up (walkW up [1])).contains q)) (hu:RdE nodEn w (Under B) AU nU up) (hB:B≤w.heap.size) (hup:FewU up) (hdi:i64 d):Calls Tryz.prog 105 #[.pointer (some ⟨gT,0,none⟩),.int .i64 d,.string ⟨nm.toArray⟩] w (BoolB w r):=by
 have RT:=hide ht
 have HM:=hide hm
 have HU:=hide hu
 have HFU:=hide hup
 have HB:=hide (below_self w)
 have hgT:=ht.lt
 have hbM:=hm.lt
 obtain ⟨o,ho⟩:∃o,firstB up d nm=o:=⟨_,rfl⟩
 obtain ⟨E,hE⟩:∃E,entO o=E:=⟨_,rfl⟩
 obtain ⟨N,hN⟩:∃N,nodB up o=N:=⟨_,rfl⟩
 have HE1:=hide (show entO (firstB up d nm)=E from by rw [ho];exact hE)
 have HN1:=hide (show nodB up (firstB up d nm)=N from by rw [ho];exact hN)
 have HEL:=hide (show (entB up d).length≤17 from Nat.le_trans (entB_len hup.2 d) (by omega))
 have hEs:i64 E.slot:=by
  rw [←hE]
  cases ho':o with
  | none=>unfold entO i64;simp [ent0]
  | some e =>
   obtain ⟨-,-,h3⟩:=firstB_use (ho.trans ho')
   have h4:e∈(nodAt up d).ents:=by
    unfold entB at h3
    split at h3
    ·exact h3
    ·cases h3
   obtain ⟨i,hil,hie⟩:=List.mem_iff_getElem.1 h4
   have h5:=(nodAt_plain hup.2 d).1 i e hil (by rw [List.getElem?_eq_getElem hil,hie])
   unfold entO i64
   simp only [Option.getD_some]
   omega
 obtain ⟨tw,htw⟩:∃t,(twiceS up (walkW up [1])).contains (d,E.slot)=t:=⟨_,rfl⟩
 have HR:=hide (show r=(tw&&(N.k==1)) from by
  rw [←hr,←htw,←hN,←hE]
  unfold againS
  rw [ho]
  cases ho':o with
  | none=>simp [nodB,nod0]
  | some e =>
   simp only [entO,Option.getD_some,nodB]
   by_cases hc:(d,e.slot)∈twiceS up (walkW up [1])
   ·rw [again_kind hup (ho.trans ho') hc]
    simp
   ·have:(twiceS up (walkW up [1])).contains (d,e.slot)=false:=by simpa using hc
    rw [this]
    rfl)
 have q13_4:w.cell? ⟨gT,4,none⟩=some (.slice AU nU cU):=RT.out.cell 4
 clear ht hm hu hup hr hE hN ho
 go_enter Tryz.func105,Tryz.ntmps105
 go_wp2_with (first|(refine wpList_loadC rfl 26 (.tmp 15) rfl 1 lay_agg lay_size gT 4 102 rfl (touC g (.slice AU nU cU) (.slice AL nL cL) (.map (some bM)) vS vX) [.slice AU nU cU] RT.out rfl rfl ?_)|(go_at_call 145;refine (First_m HE1.out HN1.out w HU.out (by omega) (by have:=HFU.out.1;omega) HEL.out).mono ?_;rintro e1 wF ⟨A1,n1,c1,C1,m1,d1,rfl,hbel⟩;clear q13_4;replace HB:=hide (HB.out.trans (hbel.mono HB.out.size));replace RT:=hide (RT.out.on hbel);replace HM:=hide (HM.out.on hbel);replace HU:=hide (HU.out.under hbel (by omega));have hsz2:=hbel.size;have q13_4:wF.cell? ⟨gT,4,none⟩=some (.slice AU nU cU):=RT.out.cell 4;clear hbel)|(obtain ⟨hz7,hz8,hzb,hzs⟩:=rows2 wF [.int .i64 0,.int .i64 0,.string ⟨#[]⟩] (nodC nod0 (.slice none 0 0) (.slice none 0 0)) 75 67;refine wpList_storeW rfl 75 (.tmp 7) (.tmp 20) rfl 3 entw_size (wF.heap.size) 75 rfl [.int .i64 0,.int .i64 0,.string ⟨#[]⟩] (cellsE E) rfl hz7 rfl rfl (cellsE_one _) ?_;intro wS3 hr3 hg3 hs3;replace hzb:=hzb.grown hg3 hzb.size (pu4 (by omega));replace hz8:=hz8.grown hg3 (pu5 (by omega));have hz7:=hr3;clear hg3 hs3 hr3)|(refine wpList_storeW rfl 67 (.tmp 8) (.tmp 21) rfl 13 nod_size (wF.heap.size+1) 67 rfl (nodC nod0 (.slice none 0 0) (.slice none 0 0)) (nodC N (.slice A1 n1 c1) (.slice C1 m1 d1)) rfl hz8 rfl rfl (nodC_one _ _ _ _ _ _ _) ?_;intro wS4 hr4 hg4 hs4;replace hzb:=hzb.grown hg4 hzb.size (pu4 (by omega));replace hz7:=hz7.grown hg4 (pu5 (by omega));have hz8:=hr4;clear q13_4;replace HB:=hide (HB.out.trans (hzb.mono HB.out.size));replace RT:=hide (RT.out.on hzb);replace HM:=hide (HM.out.on hzb);replace HU:=hide (HU.out.under hzb (by omega));have hsz5:=hzb.size;have q13_4:wS4.cell? ⟨gT,4,none⟩=some (.slice AU nU cU):=RT.out.cell 4;have R7:=hide hz7;have hlt3:=hz7.lt;have R8:=hide hz8;have hlt4:=hz8.lt;have q7_0:wS4.cell? ⟨wF.heap.size,0,none⟩=some (.int .i64 E.slot):=R7.out.cell 0;have q8_0:wS4.cell? ⟨wF.heap.size+1,0,none⟩=some (.int .i64 N.k):=R8.out.cell 0;clear hzb hzs hz7 hz8;clear hg4 hs4))
 refine wp_region_planN (fun w'=>Below wS4.heap.size wS4 w') [(0,true),(1,true),(2,true),(3,true),(4,true),(5,true),(6,true),(7,true),(8,true),(9,true),(10,true),(11,true),(12,false),(13,false),(14,true)] (by kernel_rfl) (by kernel_rfl) (by kernel_rfl) (by kernel_rfl) rfl (fun _ _ _ _ _ h=>h) (below_drew (below_self wS4)) (fun hHeld=>?_)
 simp only [planOps,List.filterMap_cons,List.filterMap_nil,List.getElem?_toArray,List.getElem?_cons_succ,List.getElem?_cons_zero,Option.map_some]
 iterate 3
  refine wpPlan_take (v:=?_) (by kernel_rfl) (fun wS hSw=>?_) ?_
  rotate_left
  ·(try dsimp only at hSw);go_simp;(try with_reducible rfl)
  (try simp only [Act.put,pu1,pu2,pu3])
 refine wpPlan_take (v:=?_) (by kernel_rfl) (fun wS hSw=>?_) ?_
 rotate_left
 ·have qx:=(RT.out.on hSw).cell 6 |>.trans (show (touC g (.slice AU nU cU) (.slice AL nL cL) (.map (some bM)) vS vX)[6]?=some (.map (some bM)) from rfl);go_simp;(try with_reducible rfl)
 (try simp only [Act.put,pu1,pu2,pu3])
 iterate 2
  refine wpPlan_take (v:=?_) (by kernel_rfl) (fun wS hSw=>?_) ?_
  rotate_left
  ·(try dsimp only at hSw);go_simp;(try with_reducible rfl)
  (try simp only [Act.put,pu1,pu2,pu3])
 refine wpPlan_take (v:=?_) (by kernel_rfl) (fun wS hSw=>?_) ?_
 rotate_left
 ·have qx:=(R7.out.on hSw).cell 0 |>.trans (show (cellsE E)[0]?=some (.int .i64 E.slot) from rfl);go_simp;(try with_reducible rfl)
 (try simp only [Act.put,pu1,pu2,pu3])
 refine wpPlan_take (v:=?_) (by kernel_rfl) (fun wS hSw=>?_) ?_
 rotate_left
 ·(try dsimp only at hSw);go_simp;(try with_reducible rfl)
 (try simp only [Act.put,pu1,pu2,pu3])
 refine wpPlan_take (v:=?_) (by kernel_rfl) (fun wS hSw=>?_) ?_
 rotate_left
 ·have qx:=(HM.out.on hSw).look hdi hEs;(try dsimp only at hSw);go_simp;(try with_reducible rfl)
 (try simp only [Act.put,pu1,pu2,pu3])
 iterate 3
  refine wpPlan_take (v:=?_) (by kernel_rfl) (fun wS hSw=>?_) ?_
  rotate_left
  ·(try dsimp only at hSw);go_simp;(try with_reducible rfl)
  (try simp only [Act.put,pu1,pu2,pu3])
 refine wpPlan_call (by kernel_rfl) (fun K hK=>?_)
 have hOld:=hide hHeld
 clear hHeld
 unfold Oper.wp execOp
 go_simp
 refine hK.out _ _ (hOld.out.alloc hOld.out.size _) (fun hHeld=>?_)
 clear hK K
 (try simp only [Act.put,pu1,pu2,pu3])
 refine wpPlan_call (by kernel_rfl) (fun K hK=>?_)
 have hOld:=hide hHeld
 clear hHeld
 unfold Oper.wp execOp
 go_simp
 refine hK.out _ _ (hOld.out) (fun hHeld=>?_)
 clear hK K
 (try simp only [Act.put,pu1,pu2,pu3])
 refine wpPlan_take (v:=?_) (by kernel_rfl) (fun wS hSw=>?_) ?_
 rotate_left
 ·(try dsimp only at hSw);go_simp;(try with_reducible rfl)
 (try simp only [Act.put,pu1,pu2,pu3])
 refine wpPlan_end ?_
 have HBX:=hide (HB.out.trans (hHeld.mono HB.out.size))
 have R8x:=hide (R8.out.on hHeld)
 have htd:decide ((d,E.slot)∈twiceS up (walkW up [1]))=tw:=by rw [←htw];simp
 rw [htd]
 have q8:=R8x.out.cell 0
 have q8':=q8.trans (show (nodC N (.slice A1 n1 c1) (.slice C1 m1 d1))[0]?=some (.int .i64 N.k) from rfl)
 clear htd htw q8 hHeld
 cases tw
 ·go_wp2_with fail
  go_ret
  exact BoolB.eq (by rw [HR.out];rfl) HBX.out
 ·go_wp2_with fail
  go_ret
  exact BoolB.eq (by rw [HR.out];first|rfl|simp) HBX.out
end Go.Proofs.YtmhiohnkjpglfaaGreat

namespace Go.Proofs.YtmhiohnkjpglfaaGreat
open Go.RowKit Plain
variable {α : Type} {E : Enc α}

def OwD (E:Enc α) (D:Nat→Prop) (w:World) (base e:Nat) (A:Option Addr) (n c:Nat) (l:List α):Prop:=∃css,w.ownsRow base e E.k (.slice A n c) n css.flatten∧CellsE E w D css l∧l.length=n∧∀b,D b→b < w.heap.size∧∀a,A=some a→b≠a.block
theorem OwD.empty (E:Enc α) (w:World) (e:Nat):OwD E (fun _=>False) (w.alloc (.cells #[] e)) w.heap.size e (some ⟨w.heap.size,0,none⟩) 0 0 [] :=
 ⟨[],World.ownsRow_lit w #[] 0 (Nat.le_refl _) (by simp [maxLen]) (by simp),⟨rfl,fun i cs x h=>by simp at h⟩,rfl,fun _ h=>h.elim⟩
theorem OwD.grown {D:Nat→Prop} {w w':World} {base e n c:Nat} {A:Option Addr} {l:List α} {r:Option Nat} (h:OwD E D w base e A n c l) (hg:w.grownBy w' r) (hne:∀g,r=some g→¬D g∧∀a,A=some a→a.block≠g):OwD E D w' base e A n c l:=by
 obtain ⟨css,hown,hc,hl,hD⟩:=h
 have hk:Kept D w w':=fun b hb=>hg.block b (hD b hb).1 (fun e=>(hne b e.symm).1 hb)
 refine ⟨css,hown.kept hg ?_,hc.mono hk (fun _ h=>h),hl,fun b hb=>⟨Nat.lt_of_lt_of_le (hD b hb).1 hg.size,(hD b hb).2⟩⟩
 cases A with
 | none=>exact .inl rfl
 | some a=>exact .inr (fun e=>(hne a.block (by rw [←e];rfl)).2 a rfl rfl)
theorem run_append_OwD {P : Program} (w : World) (base : Nat) (t ty e : TypeId) (z : Value) (k : Nat) (ht : P.underlying t = some (.slice e)) (hinfo : (P.info? e).map (fun i => (i.zero, i.size, i.bytes)) = some (some z, E.k, k)) (hzs : z.cells.size = E.k) (hk : 0 < E.k)
  (D0:Nat→Prop) (A0:Option Addr) (n c0:Nat) (l0:List α) (hown:OwD E D0 w base e A0 n c0 l0) (D:Nat→Prop) (A:Option Addr) (m c:Nat) (l1:List α) (hb:RdE E w D A m l1) (hD:∀b,D b→b < w.heap.size∧∀a,A0=some a→b≠a.block)
  (hbytes:(n+m)*k≤140737488355328) (hnm:n+m≤140737488355328) (hbase:base≤w.heap.size) :
  ∃A' c' w',(Builtin.append_ #[t,t] ty #[.slice A0 n c0,.slice A m c]).run P w=.ok (.slice A' (n+m) c') w'∧OwD E (fun b=>D0 b∨D b) w' base e A' (n+m) c' (l0++l1)∧Below base w w':=by
 obtain ⟨css,hrow,hc,hl,hD0⟩:=hown
 obtain ⟨v',w',dss,hr,h2,h3,h4,h5,h6⟩:=run_append_E (P:=P) w base t ty e z k ht hinfo hzs hk _ n css hrow D A m c l1 hb hbytes hnm hbase
 have hv:∃A' c',v'=.slice A' (n+m) c':=by
  rcases h2.2 with ⟨rfl,h0⟩|⟨g,cap,cur,rfl,_⟩
  ·exact ⟨none,0,by rw [h0]⟩
  ·exact ⟨_,_,rfl⟩
 obtain ⟨A',c',rfl⟩:=hv
 have hall:∀b,(D0 b∨D b)→b < w.heap.size∧∀a,A0=some a→b≠a.block:=fun b hb=>hb.elim (hD0 b) (hD b)
 have hkept:Kept (fun b=>D0 b∨D b) w w':=by
  intro b hb
  refine h5.block b (hall b hb).1 ?_
  intro e
  cases A0 with
  | none=>simp [Value.ownBlock] at e
  | some a =>
   have:b=a.block:=by simpa [Value.ownBlock] using e
   exact (hall b hb).2 a rfl this
 refine ⟨A',c',w',hr,⟨css++dss,h2,?_,by rw [List.length_append,hl,hb.1],fun b hb=>⟨Nat.lt_of_lt_of_le (hall b hb).1 h4.size,fun a ha e=>?_⟩⟩,h4⟩
 ·exact (hc.mono (fun b hb=>hkept b (.inl hb)) (fun _ hb=>.inl hb)).append (h3.mono (fun b hb=>hkept b (.inr hb)) (fun _ hb=>.inr hb))
 ·subst ha
  rcases h6 with h6|h6
  ·cases A0 with
   | none=>simp [Value.ownBlock] at h6
   | some a0 =>
    have e2:a.block=a0.block:=by simpa [Value.ownBlock] using h6
    exact (hall b hb).2 a0 rfl (e.trans e2)
  ·have h7:=h6 a.block rfl
   have h8:=(hall b hb).1
   omega
theorem wpList_append_OwD {P : Program} (w : World) {ops : Array Oper} {rest : List Oper} {o : Oper} {a : Act} {Q : Exit → Act → World → Prop} (hgd : o.guard = none) (s x : Operand) (t : TypeId)
  (ho:o.op=.call {callee:=.builtin .append,args:=#[s,x],argTypes:=#[t,t]})
  (base:Nat) (e:TypeId) (z:Value) (k:Nat) (ht:P.underlying t=some (.slice e)) (hinfo:(P.info? e).map (fun i=>(i.zero,i.size,i.bytes))=some (some z,E.k,k)) (hzs:z.cells.size=E.k) (hk:0 < E.k)
  (D0:Nat→Prop) (A0:Option Addr) (n c0:Nat) (l0:List α) (hs:a.eval s=.slice A0 n c0) (hown:OwD E D0 w base e A0 n c0 l0) (D:Nat→Prop) (A:Option Addr) (m c:Nat) (l1:List α) (hx:a.eval x=.slice A m c) (hb:RdE E w D A m l1) (hD:∀b,D b→b < w.heap.size∧∀a,A0=some a→b≠a.block)
  (N:Nat) (hN:n+m=N) (hbytes:N*k≤140737488355328) (hnm:N≤140737488355328) (hbase:base≤w.heap.size)
  (h:∀A' c' w',OwD E (fun b=>D0 b∨D b) w' base e A' N c' (l0++l1)→Below base w w'→wpList P ops Q rest (a.put o.dst (.slice A' N c')) w'):wpList P ops Q (o::rest) a w:=by
 subst hN
 refine wpList_plain hgd fun K hK=>?_
 obtain ⟨A',c',w',hr,h2,h3⟩:=run_append_OwD (P:=P) w base t o.type e z k ht hinfo hzs hk D0 A0 n c0 l0 hown D A m c l1 hb hD hbytes hnm hbase
 unfold Oper.wp execOp
 simp only [ho,resolve,invoke,builtin,Sem.run_bind,Sem.run_pure,Result.andThen_ok,List.map_toArray,List.map_cons,List.map_nil,hs,hx,hr]
 exact hK _ _ (h A' c' w' h2 h3)
theorem OwD.own {D:Nat→Prop} {w:World} {base e n c:Nat} {A:Option Addr} {l:List α} (h:OwD E D w base e A n c l):OwE E w base e A n c l:=by
 obtain ⟨css,h1,h2,h3,h4⟩:=h
 exact ⟨css,h1,h2.mono (fun _ _=>rfl) (fun b hb=>⟨⟨(h4 b hb).1,fun _ _ _ _=>rfl⟩,(h4 b hb).2⟩),h3⟩
theorem OwD.dom {D D':Nat→Prop} {w:World} {base e n c:Nat} {A:Option Addr} {l:List α} (h:OwD E D w base e A n c l) (h1:∀b,D b→D' b) (h2:∀b,D' b→D b):OwD E D' w base e A n c l:=by
 obtain ⟨css,k1,k2,k3,k4⟩:=h
 exact ⟨css,k1,k2.mono (fun _ _=>rfl) h1,k3,fun b hb=>k4 b (h2 b hb)⟩
theorem OwD.nil_ (E:Enc α) {D:Nat→Prop} (w:World) (base e:Nat) (hD:∀b,D b→b < w.heap.size):OwD E D w base e none 0 0 [] :=
 ⟨[],⟨by simp,.inl ⟨rfl,rfl⟩⟩,⟨rfl,fun i cs x h=>by simp at h⟩,rfl,fun b hb=>⟨hD b hb,fun a ha=>by cases ha⟩⟩
theorem OwD.lt {D:Nat→Prop} {w:World} {base e n c:Nat} {A:Option Addr} {l:List α} (h:OwD E D w base e A n c l):∀a,A=some a→a.block < w.heap.size:=by
 obtain ⟨css,h1,-⟩:=h
 intro a ha
 rcases h1.2 with ⟨h2,-⟩|⟨g,cap,cur,he,-,hg,-⟩
 ·simp only [Value.slice.injEq] at h2
  rw [h2.1] at ha;cases ha
 ·simp only [Value.slice.injEq] at he
  rw [he.1] at ha
  cases ha
  rcases Nat.lt_or_ge g w.heap.size with hlt|hge
  ·exact hlt
  ·rw [Array.getElem?_eq_none hge] at hg;cases hg
end Go.Proofs.YtmhiohnkjpglfaaGreat

