import Derived.Test.YtggnbflbbfdohaaGreatRo2
import Derived.RangeFuncNested
import Derived.RangeFuncBound
import Derived.RangeFuncCalls
import Derived.RangeFuncLeaves
import Derived.RangeFuncFrom
import Derived.RangeFuncWrites
import Derived.Shelf.Abstract
import Derived.Shelf.RegionOpen
import Derived.WalkKit
import Derived.OwnWalkIn
import Derived.TacticsInMore
import Derived.LoopNIn
import Derived.LoopIn

namespace Go.Proofs.YtggnbflbbfdohaaGreat
open Go.RowKit Plain

structure NodV where
 (k p n g:Int)
 data:List UInt8
 ents:List EntV
 att:AttV
 deriving DecidableEq
def nod0:NodV:=⟨0,0,0,0,[],[],att0⟩
def nodAt (ns:List NodV) (i:Int):NodV:=if 1≤i∧i≤(ns.length:Int) then (ns[(i - 1).toNat]?).getD nod0 else nod0
def isDir (ns:List NodV) (i:Int):Bool:=decide ((nodAt ns i).k=1)
structure WayV where
 (ino up:Int)
 name:List UInt8
 deriving DecidableEq
abbrev StW:=List WayV×List (Int×Nat)
def cameW (l:List WayV) (i:Int):Bool:=l.any (fun x=>x.ino==i)
def oneW (dir:Int) (p:Nat) (s:StW) (x:EntV×Nat):StW :=
 if cameW s.1 x.1.ino then (s.1,s.2++[(dir,x.2)]) else (s.1++[⟨x.1.ino,p,x.1.name⟩],s.2)
def dirsOf (ns:List NodV) (l:List EntV):List (EntV×Nat):=l.zipIdx.filter (fun x=>isDir ns x.1.ino)
def visitW (ns:List NodV) (p:Nat) (s:StW):StW:=match s.1[p]? with
 | none=>s
 | some y=>(dirsOf ns (nodAt ns y.ino).ents).foldl (oneW y.ino p) s
def runW (ns : List NodV) : Nat → Nat → StW → StW
 | 0,_,s=>s
 | f+1,p,s=>if p < s.1.length then runW ns f (p+1) (visitW ns p s) else s
def rootW (ns:List NodV) (s:StW) (i:Int):StW:=if isDir ns i&&!cameW s.1 i then runW ns (ns.length - s.1.length) s.1.length (s.1++[⟨i,-1,[]⟩],s.2) else s
def walkW (ns:List NodV) (ff:List Int):StW:=ff.foldl (rootW ns) ([],[])

theorem isDir_in {ns:List NodV} {i:Int} (h:isDir ns i=true):1≤i∧i≤(ns.length:Int):=by
 unfold isDir nodAt at h
 split at h
 ·assumption
 ·simp [nod0] at h
theorem came_iff {l:List WayV} {i:Int}:cameW l i=true↔∃x∈l,x.ino=i:=by simp [cameW]
theorem came_not {l:List WayV} {i:Int} (h:cameW l i=false):∀x∈l,x.ino≠i:=by
 intro x hx e
 have:=(came_iff (l:=l) (i:=i)).2 ⟨x,hx,e⟩
 rw [h] at this
 cases this

def OkW (ns:List NodV) (l:List WayV):Prop:=(∀x∈l,isDir ns x.ino=true)∧(l.map WayV.ino).Nodup
theorem OkW.nil_ (ns:List NodV):OkW ns []:=⟨fun _ h=>(by cases h),List.nodup_nil⟩
theorem OkW.snoc {ns:List NodV} {l:List WayV} {x:WayV} (h:OkW ns l) (hd:isDir ns x.ino=true) (hc:cameW l x.ino=false):OkW ns (l++[x]):=by
 refine ⟨fun y hy=>?_,?_⟩
 ·rcases List.mem_append.1 hy with h1|h1
  ·exact h.1 y h1
  ·rw [List.mem_singleton] at h1;rw [h1];exact hd
 ·rw [List.map_append,List.nodup_append]
  refine ⟨h.2,by simp,?_⟩
  intro a ha b hb e
  simp at hb
  subst hb
  obtain ⟨y,hy,rfl⟩:=List.mem_map.1 ha
  exact came_not hc y hy e
theorem nodup_le:∀(n:Nat) (l:List Int),l.Nodup→(∀x∈l,1≤x∧x≤(n:Int))→l.length≤n:=by
 intro n
 induction n with
 | zero =>
  intro l _ h
  cases l with
  | nil=>exact Nat.le_refl _
  | cons x r=>have:=h x List.mem_cons_self;omega
 | succ n ih =>
  intro l hn h
  have h1:(l.erase ((n:Int)+1)).length≤n:=by
   refine ih _ (hn.erase _) fun x hx=>?_
   have h2:=(List.Nodup.mem_erase_iff hn).1 hx
   have h3:=h x h2.2
   have:=h2.1
   omega
  have h2:l.length≤(l.erase ((n:Int)+1)).length+1:=by
   rw [List.length_erase]
   split <;> omega
  omega
theorem OkW.le {ns:List NodV} {l:List WayV} (h:OkW ns l):l.length≤ns.length:=by
 have:=nodup_le ns.length (l.map WayV.ino) h.2 (fun x hx=>by
  obtain ⟨y,hy,rfl⟩:=List.mem_map.1 hx
  exact isDir_in (h.1 y hy))
 simpa using this
theorem OkW.lt {ns:List NodV} {l:List WayV} {i:Int} (h:OkW ns l) (hd:isDir ns i=true) (hc:cameW l i=false):l.length < ns.length:=by
 have:=(h.snoc (x:=⟨i,0,[]⟩) hd hc).le
 simp at this
 omega
theorem dirsOf_dir {ns:List NodV} {l:List EntV}:∀x∈dirsOf ns l,isDir ns x.1.ino=true:=fun _ hx=>(List.mem_filter.1 hx).2

theorem foldl_keep {α β:Type} {f:β→α→β} {P:β→Prop} (l:List α) (s:β) (hs:P s) (h:∀s x,x∈l→P s→P (f s x)):P (l.foldl f s):=by
 induction l generalizing s with
 | nil=>exact hs
 | cons x r ih=>exact ih _ (h s x List.mem_cons_self hs) (fun s y hy=>h s y (List.mem_cons_of_mem _ hy))
theorem one_ok {ns:List NodV} {dir:Int} {p:Nat} {s:StW} {x:EntV×Nat} (h:OkW ns s.1) (hd:isDir ns x.1.ino=true):OkW ns (oneW dir p s x).1:=by
 unfold oneW
 cases hc:cameW s.1 x.1.ino with
 | true=>simpa using h
 | false=>simpa using h.snoc (x:=⟨x.1.ino,p,x.1.name⟩) hd hc
theorem one_pre {dir:Int} {p:Nat} {s:StW} {x:EntV×Nat}:s.1 <+: (oneW dir p s x).1:=by
 unfold oneW
 split
 ·exact List.prefix_refl _
 ·exact List.prefix_append _ _
theorem visit_ok {ns:List NodV} {p:Nat} {s:StW} (h:OkW ns s.1):OkW ns (visitW ns p s).1:=by
 unfold visitW
 split
 ·exact h
 ·exact foldl_keep (P:=fun s:StW=>OkW ns s.1) _ _ h (fun _ x hx hs=>one_ok hs (dirsOf_dir x hx))
theorem visit_pre {ns:List NodV} {p:Nat} {s:StW}:s.1 <+: (visitW ns p s).1:=by
 unfold visitW
 split
 ·exact List.prefix_refl _
 ·exact foldl_keep (P:=fun t:StW=>s.1 <+: t.1) _ _ (List.prefix_refl _) (fun _ _ _ hs=>hs.trans one_pre)
theorem run_ok {ns : List NodV} : ∀ (f p : Nat) (s : StW), OkW ns s.1 → OkW ns (runW ns f p s).1
 | 0,_,_,h=>h
 | f+1,p,s,h=>by
  unfold runW
  split
  ·exact run_ok f _ _ (visit_ok h)
  ·exact h
theorem run_pre {ns : List NodV} : ∀ (f p : Nat) (s : StW), s.1 <+: (runW ns f p s).1
 | 0,_,_=>List.prefix_refl _
 | f+1,p,s=>by
  unfold runW
  split
  ·exact visit_pre.trans (run_pre f _ _)
  ·exact List.prefix_refl _
theorem root_ok {ns:List NodV} {s:StW} {i:Int} (h:OkW ns s.1):OkW ns (rootW ns s i).1:=by
 unfold rootW
 split
 ·rename_i hc
  rw [Bool.and_eq_true,Bool.not_eq_true'] at hc
  exact run_ok _ _ _ (h.snoc (x:=⟨i,-1,[]⟩) hc.1 hc.2)
 ·exact h
theorem walk_ok (ns:List NodV) (ff:List Int):OkW ns (walkW ns ff).1:=foldl_keep (P:=fun s:StW=>OkW ns s.1) _ _ (OkW.nil_ ns) (fun _ _ _ hs=>root_ok hs)
theorem walk_snoc (ns:List NodV) (ff:List Int) (i:Int):walkW ns (ff++[i])=rootW ns (walkW ns ff) i:=by simp [walkW]

theorem one_tw {dir:Int} {p:Nat} {s:StW} {x:EntV×Nat}:(oneW dir p s x).2.length≤s.2.length+1:=by
 unfold oneW
 split <;> simp
theorem fold_tw (dir : Int) (p : Nat) : ∀ (l : List (EntV × Nat)) (s : StW), (l.foldl (oneW dir p) s).2.length ≤ s.2.length + l.length
 | [],s=>by simp
 | x::r,s=>by
  have h1:=fold_tw dir p r (oneW dir p s x)
  have h2:=one_tw (dir:=dir) (p:=p) (s:=s) (x:=x)
  simp only [List.foldl_cons,List.length_cons]
  omega
def Many (ns:List NodV):Prop:=ns.length≤24∧∀x∈ns,x.ents.length≤16
theorem nodAt_ents {ns:List NodV} (h:Many ns) (i:Int):(nodAt ns i).ents.length≤16:=by
 unfold nodAt
 split
 ·cases hx:ns[(i - 1).toNat]? with
  | none=>simp [nod0]
  | some x=>simpa using h.2 x (List.mem_of_getElem? hx)
 ·simp [nod0]
theorem dirsOf_len (ns:List NodV) (l:List EntV):(dirsOf ns l).length≤l.length:=by
 unfold dirsOf
 exact Nat.le_trans (List.length_filter_le _ _) (by simp)
theorem visit_tw {ns:List NodV} (h:Many ns) (p:Nat) (s:StW):(visitW ns p s).2.length≤s.2.length+16:=by
 unfold visitW
 split
 ·omega
 ·rename_i y _
  have h1:=fold_tw y.ino p (dirsOf ns (nodAt ns y.ino).ents) s
  have h2:=dirsOf_len ns (nodAt ns y.ino).ents
  have h3:=nodAt_ents h y.ino
  omega
end Go.Proofs.YtggnbflbbfdohaaGreat

namespace Go.Proofs.YtggnbflbbfdohaaGreat
open Go.RowKit

section
variable {P : Program} {T k : Nat}
theorem run_loadAt_row (hag:∀w,(isAgg T).run P w=.ok true w) (hsz:∀w,(sizeOf T).run P w=.ok k w) {w:World} {g t off:Nat} {cur cs:List Value} (h:RowL w g t cur) (hc:(cur.drop off).take k=cs) (hk:cs.length=k) :
  (Instr.loadAt T (.pointer (some ⟨g,off,none⟩))).run P w=.ok (.agg cs.toArray) w:=by
 have hl:=run_loadCells_list (P:=P) w ⟨g,off,none⟩ cs (fun j v hv=>by
  have hj:j < cs.length:=(List.getElem?_eq_some_iff.1 hv).1
  rw [Addr.add_lit,h.cell,←hv,←hc,List.getElem?_take_of_lt (by omega),List.getElem?_drop])
 rw [hk] at hl
 simp [Instr.loadAt,Instr.sureAddr,loadVar,hag,hsz,hl]
theorem run_storeAt_row (hsz:∀w,(sizeOf T).run P w=.ok k w) {w:World} {g t off:Nat} {cur cs:List Value} (h:RowL w g t cur) (hk:cs.length=k) (hfit:off+k≤cur.length) (h1:∀v∈cs,v.oneCell'=true) :
  (Instr.storeAt T (.pointer (some ⟨g,off,none⟩)) (.agg cs.toArray)).run P w=.ok () (w.setRow g (splice cur off cs).toArray):=by
 have hst:=run_storeCells_at P g off t cs 0 cur.toArray w h (by simp;omega) h1
 simp only [Nat.add_zero] at hst
 simp [Instr.storeAt,Instr.sureAddr,storeVar,hsz,Value.cells,hk,hst,splice]
theorem RowL.setRow_ {w:World} {g t:Nat} {cur:List Value} (h:RowL w g t cur) (new:List Value):RowL (w.setRow g new.toArray) g t new:=setRow_heap w g cur.toArray new.toArray t (0,0) h
theorem grownBy_setRow (w:World) (g:Nat) (new:Array Value):w.grownBy (w.setRow g new) (some g):=⟨rfl,rfl,rfl,by simp,fun j _ hj=>setRow_other w g j new (fun e=>hj (by rw [e]))⟩

theorem wpList_loadC {w : World} {ops : Array Oper} {rest : List Oper} {o : Oper} {a : Act} {Q : Exit → Act → World → Prop} (hgd : o.guard = none) (T : Nat) (x : Operand) (ho : o.op = .load T x)
  (k:Nat) (hag:∀w,(isAgg T).run P w=.ok true w) (hsz:∀w,(sizeOf T).run P w=.ok k w) (g off t:Nat) (hx:a.eval x=.pointer (some ⟨g,off,none⟩)) (cur cs:List Value) (h:RowL w g t cur) (hc:(cur.drop off).take k=cs) (hk:cs.length=k)
  (hK:wpList P ops Q rest (a.put o.dst (.agg cs.toArray)) w):wpList P ops Q (o::rest) a w:=by
 refine wpList_plain hgd fun K hK'=>?_
 have hr:=run_loadAt_row (P:=P) hag hsz h hc hk
 unfold Oper.wp execOp
 simp only [ho,Sem.run_bind,Sem.run_pure,Result.andThen_ok,hx,hr]
 exact hK' _ _ hK
theorem run_loadAt_cells (hag:∀w,(isAgg T).run P w=.ok true w) (hsz:∀w,(sizeOf T).run P w=.ok k w) {w:World} {g off:Nat} {cs:List Value} (h:∀j v,cs[j]?=some v→w.cell? ⟨g,off+j,none⟩=some v) (hk:cs.length=k) :
  (Instr.loadAt T (.pointer (some ⟨g,off,none⟩))).run P w=.ok (.agg cs.toArray) w:=by
 have hl:=run_loadCells_list (P:=P) w ⟨g,off,none⟩ cs (fun j v hv=>by rw [Addr.add_lit];exact h j v hv)
 rw [hk] at hl
 simp [Instr.loadAt,Instr.sureAddr,loadVar,hag,hsz,hl]
theorem wpList_loadX {w : World} {ops : Array Oper} {rest : List Oper} {o : Oper} {a : Act} {Q : Exit → Act → World → Prop} (hgd : o.guard = none) (T : Nat) (x : Operand) (ho : o.op = .load T x)
  (k:Nat) (hag:∀w,(isAgg T).run P w=.ok true w) (hsz:∀w,(sizeOf T).run P w=.ok k w) (g off:Nat) (hx:a.eval x=.pointer (some ⟨g,off,none⟩)) (cs:List Value) (h:∀j v,cs[j]?=some v→w.cell? ⟨g,off+j,none⟩=some v) (hk:cs.length=k)
  (hK:wpList P ops Q rest (a.put o.dst (.agg cs.toArray)) w):wpList P ops Q (o::rest) a w:=by
 refine wpList_plain hgd fun K hK'=>?_
 have hr:=run_loadAt_cells (P:=P) hag hsz h hk
 unfold Oper.wp execOp
 simp only [ho,Sem.run_bind,Sem.run_pure,Result.andThen_ok,hx,hr]
 exact hK' _ _ hK
theorem wp_storeC {w : World} {o : Oper} {a : Act} {K : Act → World → Prop} {Q : Exit → Act → World → Prop} (T : Nat) (x y : Operand) (ho : o.op = .store T x y)
  (k:Nat) (hsz:∀w,(sizeOf T).run P w=.ok k w) (g off t:Nat) (hx:a.eval x=.pointer (some ⟨g,off,none⟩)) (cur cs:List Value) (hy:a.eval y=.agg cs.toArray) (h:RowL w g t cur) (hk:cs.length=k) (hfit:off+k≤cur.length) (h1:∀v∈cs,v.oneCell'=true)
  (hK:∀w',RowL w' g t (splice cur off cs)→w.grownBy w' (some g)→w'.heap.size=w.heap.size→K (a.put o.dst undef) w'):o.wp P a w K Q:=by
 have hr:=run_storeAt_row (P:=P) hsz h hk hfit h1
 unfold Oper.wp execOp
 simp only [ho,Sem.run_bind,Sem.run_pure,Result.andThen_ok,hx,hy,hr]
 exact hK _ (h.setRow_ _) (grownBy_setRow _ _ _) (by simp)
theorem wpList_storeC {w : World} {ops : Array Oper} {rest : List Oper} {o : Oper} {a : Act} {Q : Exit → Act → World → Prop} (hgd : o.guard = none) (T : Nat) (x y : Operand) (ho : o.op = .store T x y)
  (k:Nat) (hsz:∀w,(sizeOf T).run P w=.ok k w) (g off t:Nat) (hx:a.eval x=.pointer (some ⟨g,off,none⟩)) (cur cs:List Value) (hy:a.eval y=.agg cs.toArray) (h:RowL w g t cur) (hk:cs.length=k) (hfit:off+k≤cur.length) (h1:∀v∈cs,v.oneCell'=true)
  (hK:∀w',RowL w' g t (splice cur off cs)→w.grownBy w' (some g)→w'.heap.size=w.heap.size→wpList P ops Q rest (a.put o.dst undef) w'):wpList P ops Q (o::rest) a w:=by
 refine wpList_plain hgd fun K hK'=>?_
 exact wp_storeC T x y ho k hsz g off t hx cur cs hy h hk hfit h1 fun w' h1 h2 h3=>hK' _ _ (hK w' h1 h2 h3)
end
end Go.Proofs.YtggnbflbbfdohaaGreat

namespace Go.Proofs.YtggnbflbbfdohaaGreat
open Go.RowKit Plain

section
variable {w w' : World} {g t : Nat} {cs : List Value}
theorem RowL.on (h:RowL w g t cs) (hb:Below w.heap.size w w'):RowL w' g t cs:=(hb.block g h.lt).trans h
theorem RowL.drew (h:RowL w g t cs):RowL w.drew g t cs:=h
theorem grown_cell (w:World) (g i:Nat) (u:Value):w.grownBy (w.setCell ⟨g,i,none⟩ u) (some g):=⟨rfl,rfl,rfl,by simp,fun k _ hk=>Below.heap_setCell _ _ _ _ (fun e=>hk (by rw [e]))⟩
theorem RowL.src {off m:Nat} {l:List Value} (h:RowL w g t cs) (hc:(cs.drop off).take m=l) (hm:l.length=m):∀j v,l[j]?=some v→w.cell? ((⟨g,off,none⟩:Addr).add j)=some v:=by
 intro j v hv
 have hj:j < l.length:=(List.getElem?_eq_some_iff.1 hv).1
 rw [Addr.add_lit,h.cell,←hv,←hc,List.getElem?_take_of_lt (by omega),List.getElem?_drop]
theorem below_drew (h:Below w.heap.size w w'):Below w.heap.size w w'.drew:=⟨h.os,h.tape,h.output,h.size,h.block⟩
end
section
variable {P : Program} {T k : Nat}
theorem run_loadRow {w:World} {g t:Nat} {cs:List Value} (h:RowL w g t cs) (hk:cs.length=k):(loadCellsFrom ⟨g,0,none⟩ 0 k #[]).run P w=.ok cs.toArray w:=by
 have hl:=run_loadCells_list (P:=P) w ⟨g,0,none⟩ cs (fun j v hv=>by rw [Addr.add_lit,h.cell,Nat.zero_add,hv])
 rw [hk] at hl
 exact hl
theorem wpList_loadW {w : World} {ops : Array Oper} {rest : List Oper} {o : Oper} {a : Act} {Q : Exit → Act → World → Prop} (hgd : o.guard = none) (T : Nat) (x : Operand) (ho : o.op = .load T x)
  (k:Nat) (hag:∀w,(isAgg T).run P w=.ok true w) (hsz:∀w,(sizeOf T).run P w=.ok k w) (g t:Nat) (hx:a.eval x=.pointer (some ⟨g,0,none⟩)) (cs:List Value) (h:RowL w g t cs) (hk:cs.length=k)
  (hK:wpList P ops Q rest (a.put o.dst (.agg cs.toArray)) w):wpList P ops Q (o::rest) a w :=
 wpList_loadC hgd T x ho k hag hsz g 0 t hx cs cs h (by rw [List.drop_zero,List.take_of_length_le (by omega)]) hk hK
theorem wpList_storeW {w : World} {ops : Array Oper} {rest : List Oper} {o : Oper} {a : Act} {Q : Exit → Act → World → Prop} (hgd : o.guard = none) (T : Nat) (x y : Operand) (ho : o.op = .store T x y)
  (k:Nat) (hsz:∀w,(sizeOf T).run P w=.ok k w) (g t:Nat) (hx:a.eval x=.pointer (some ⟨g,0,none⟩)) (cur cs:List Value) (hy:a.eval y=.agg cs.toArray) (h:RowL w g t cur) (hk:cs.length=k) (hcur:cur.length=k) (h1:∀v∈cs,v.oneCell'=true)
  (hK:∀w',RowL w' g t cs→w.grownBy w' (some g)→w'.heap.size=w.heap.size→wpList P ops Q rest (a.put o.dst undef) w'):wpList P ops Q (o::rest) a w :=
 wpList_storeC hgd T x y ho k hsz g 0 t hx cur cs hy h hk (by omega) h1 fun w' h1 h2 h3=>hK w' (by
  have e:splice cur 0 cs=cs:=by unfold splice;rw [List.take_zero,List.nil_append,List.drop_of_length_le (by omega),List.append_nil]
  rw [e] at h1;exact h1) h2 h3
theorem res_cell {fn : Func} {tmps : Array Value} {w : World} {s g t : Nat} {cs : List Value} (hr : fn.results = #[.cell s T]) (ht : tmps.getD s undef = .pointer (some ⟨g, 0, none⟩)) (hag : ∀ w, (isAgg T).run P w = .ok true w) (hsz : ∀ w, (sizeOf T).run P w = .ok k w)
  (h:RowL w g t cs) (hk:cs.length=k):(results fn tmps).run P w=.ok (.agg cs.toArray) w:=by
 have hl:=run_loadRow (P:=P) h hk
 have ht':tmps[s]?.getD undef=.pointer (some ⟨g,0,none⟩):=by simpa using ht
 simp [results,hr,ht',hag,hsz,hl,go_sem]
end
theorem rows1 (w:World) (c1:List Value) (t1:Nat):RowL (w.alloc (.cells c1.toArray t1)) w.heap.size t1 c1∧Below w.heap.size w (w.alloc (.cells c1.toArray t1))∧(w.alloc (.cells c1.toArray t1)).heap.size=w.heap.size+1 :=
 ⟨RowL.new w t1 c1,below_new (below_self w) _,by simp⟩
theorem rows2 (w:World) (c1 c2:List Value) (t1 t2:Nat):RowL ((w.alloc (.cells c1.toArray t1)).alloc (.cells c2.toArray t2)) w.heap.size t1 c1∧RowL ((w.alloc (.cells c1.toArray t1)).alloc (.cells c2.toArray t2)) (w.heap.size+1) t2 c2 ∧
  Below w.heap.size w ((w.alloc (.cells c1.toArray t1)).alloc (.cells c2.toArray t2))∧((w.alloc (.cells c1.toArray t1)).alloc (.cells c2.toArray t2)).heap.size=w.heap.size+2:=by
 obtain ⟨h1,h2,h3⟩:=rows1 w c1 t1
 obtain ⟨k1,k2,k3⟩:=rows1 (w.alloc (.cells c1.toArray t1)) c2 t2
 rw [h3] at k1
 exact ⟨h1.on k2,k1,below_step h2 k2,by rw [k3,h3]⟩
theorem rows3 (w:World) (c1 c2 c3:List Value) (t1 t2 t3:Nat):RowL (((w.alloc (.cells c1.toArray t1)).alloc (.cells c2.toArray t2)).alloc (.cells c3.toArray t3)) w.heap.size t1 c1∧RowL (((w.alloc (.cells c1.toArray t1)).alloc (.cells c2.toArray t2)).alloc (.cells c3.toArray t3)) (w.heap.size+1) t2 c2 ∧
  RowL (((w.alloc (.cells c1.toArray t1)).alloc (.cells c2.toArray t2)).alloc (.cells c3.toArray t3)) (w.heap.size+1+1) t3 c3 ∧
  Below w.heap.size w (((w.alloc (.cells c1.toArray t1)).alloc (.cells c2.toArray t2)).alloc (.cells c3.toArray t3))∧(((w.alloc (.cells c1.toArray t1)).alloc (.cells c2.toArray t2)).alloc (.cells c3.toArray t3)).heap.size=w.heap.size+3:=by
 obtain ⟨h1,h2,h3,h4⟩:=rows2 w c1 c2 t1 t2
 obtain ⟨k1,k2,k3⟩:=rows1 ((w.alloc (.cells c1.toArray t1)).alloc (.cells c2.toArray t2)) c3 t3
 rw [h4] at k1
 exact ⟨h1.on k2,h2.on k2,k1,below_step h3 k2,by rw [k3,h4]⟩
end Go.Proofs.YtggnbflbbfdohaaGreat

namespace Go.Proofs.YtggnbflbbfdohaaGreat
open Go.RowKit Go.Shelf Plain
attribute [local go_sem] Oper.semAt_some

theorem grown_below {W W':World} (h:Below W.heap.size W W'):W.grownBy W' none:=⟨h.os,h.tape,h.output,h.size,fun k hk _=>h.block k hk⟩
theorem kBelow {A B:World} (h:Below A.heap.size A B):KeepsOthers A B:=⟨h.size,fun i _ hi _=>(h.block i (Array.getElem?_eq_some_iff.1 hi).1).trans hi⟩
theorem RowL.turned {W W':World} {g t:Nat} {cs:List Value} {row:Option Nat} (h:RowL W g t cs) (hg:W.grownBy W' row) (hr:∀r,row=some r→∃o:Obj,W.heap[r]?=some o∧o.isCells=false):RowL W' g t cs:=by
 refine h.grown hg fun e=>?_
 obtain ⟨o,ho,hc⟩:=hr g e.symm
 rw [show W.heap[g]?=_ from h] at ho
 cases Option.some.inj ho
 cases hc

section
variable {F : Fence} {n : Nat} {P : Program} {w : World} {o : Oper} {a : Act} {K : Act → World → Prop} {Q : Exit → Act → World → Prop}
theorem wpIn_storeW (T : Nat) (x y : Operand) (ho : o.op = .store T x y) (k : Nat) (hsz : ∀ w, (Go.sizeOf T).run P w = .ok k w) (g t : Nat) (hx : a.eval x = .pointer (some ⟨g, 0, none⟩)) (cur cs : List Value) (hy : a.eval y = .agg cs.toArray) (h : RowL w g t cur) (hk : cs.length = k) (hcur : cur.length = k) (h1 : ∀ v ∈ cs, v.oneCell' = true)
  (hK:∀w',RowL w' g t cs→w.grownBy w' (some g)→w'.heap.size=w.heap.size→K (a.put o.dst undef) w'):o.wpIn F n P a w K Q:=by
 have hr:=run_storeAt_row (P:=P) hsz (off:=0) h hk (by omega) h1
 have e:splice cur 0 cs=cs:=by unfold splice;rw [List.take_zero,List.nil_append,List.drop_of_length_le (by omega),List.append_nil]
 rw [e] at hr
 unfold Oper.wpIn
 refine ⟨by simp [Oper.about,ho],?_⟩
 rw [Oper.semAt_plain F _ _ (by rw [ho];intro c hc';cases hc')]
 simp only [execOp,ho,Sem.run_bind,Sem.run_pure,Result.andThen_ok,hx,hy,hr]
 exact hK _ (h.setRow_ _) (grownBy_setRow _ _ _) (by simp)
theorem wpIn_loadX (T : Nat) (x : Operand) (ho : o.op = .load T x) (k : Nat) (hag : ∀ w, (isAgg T).run P w = .ok true w) (hsz : ∀ w, (Go.sizeOf T).run P w = .ok k w) (g off : Nat) (hx : a.eval x = .pointer (some ⟨g, off, none⟩)) (cs : List Value) (h : ∀ j v, cs[j]? = some v → w.cell? ⟨g, off + j, none⟩ = some v) (hk : cs.length = k)
  (hK:K (a.put o.dst (.agg cs.toArray)) w):o.wpIn F n P a w K Q:=by
 have hr:=run_loadAt_cells (P:=P) hag hsz h hk
 unfold Oper.wpIn
 refine ⟨by simp [Oper.about,ho],?_⟩
 rw [Oper.semAt_plain F _ _ (by rw [ho];intro c hc';cases hc')]
 simp only [execOp,ho,Sem.run_bind,Sem.run_pure,Result.andThen_ok,hx,hr]
 exact hK
end
theorem ownsRow_below {w w':World} {base e s n:Nat} {v:Value} {xs:List Value} (h:w.ownsRow base e s v n xs) (hb:Below w.heap.size w w'):w'.ownsRow base e s v n xs:=by
 refine ⟨h.1,?_⟩
 rcases h.2 with h0|⟨g,cap,cur,h1,h2,h3,h4⟩
 ·exact .inl h0
 ·refine .inr ⟨g,cap,cur,h1,h2,?_,h4⟩
  rw [hb.block g ?_]
  ·exact h3
  ·rcases Nat.lt_or_ge g w.heap.size with hlt|hge
   ·exact hlt
   ·rw [Array.getElem?_eq_none hge] at h3;cases h3
theorem own_block {W:World} {base e s n:Nat} {v:Value} {xs:List Value} (h:W.ownsRow base e s v n xs):∀g,v.ownBlock=some g→base≤g∧g < W.heap.size∧∃o:Obj,W.heap[g]?=some o∧o.isCells=true:=by
 intro g hg
 rcases h.2 with ⟨rfl,_⟩|⟨g',cap,cur,rfl,hb,hc,_⟩
 ·cases hg
 ·obtain rfl:g'=g:=Option.some.inj hg
  refine ⟨hb,?_,_,hc,rfl⟩
  rcases Nat.lt_or_ge g' W.heap.size with hlt|hge
  ·exact hlt
  ·rw [Array.getElem?_eq_none hge] at hc;cases hc
theorem owns_apart {W:World} {b1 b2 e1 e2 s1 s2 n1 n2:Nat} {v1 v2:Value} {x1 x2:List Value} (h1:W.ownsRow b1 e1 s1 v1 n1 x1) (h2:W.ownsRow b2 e2 s2 v2 n2 x2) (he:e1≠e2):v2.ownBlock=none∨v2.ownBlock≠v1.ownBlock:=by
 rcases h2.2 with ⟨rfl,_⟩|⟨g2,_,_,rfl,_,hc2,_⟩
 ·exact .inl rfl
 ·rcases h1.2 with ⟨rfl,_⟩|⟨g1,_,_,rfl,_,hc1,_⟩
  ·exact .inr (fun e=>by cases e)
  ·refine .inr fun e=>?_
   have e':g2=g1:=Option.some.inj e
   subst e'
   rw [hc1] at hc2
   have:=Option.some.inj hc2
   injection this with _ h _
   exact he h
theorem owns_slice {W:World} {base e s n:Nat} {v:Value} {xs:List Value} (h:W.ownsRow base e s v n xs):∃A c,v=.slice A n c:=by
 rcases h.2 with ⟨rfl,rfl⟩|⟨g,cap,cur,rfl,_⟩
 ·exact ⟨none,0,rfl⟩
 ·exact ⟨_,_,rfl⟩
theorem row_apart {W:World} {base e s n g t:Nat} {v:Value} {xs cs:List Value} (ho:W.ownsRow base e s v n xs) (hr:RowL W g t cs) (h:t≠e):some g≠v.ownBlock:=fun eq=>by
 rcases ho.2 with ⟨rfl,_⟩|⟨g',cap,cur,rfl,_,hc,_⟩
 ·cases eq
 ·have:g=g':=Option.some.inj eq
  subst this
  rw [show W.heap[g]?=_ from hr] at hc
  have:=Option.some.inj hc
  injection this with _ h' _
  exact h h'
def markD (D:Nat):Deferred:={target:=.collected D,args:=#[]}
def Marks (base:Nat) (Ds:List Nat) (W:World):Prop:=Ds.Pairwise (fun a b=>b < a)∧∀D,D∈Ds→base≤D∧W.heap[D]?=some (.deferred (some []))
theorem Marks.none_ (base:Nat) (W:World):Marks base [] W:=⟨List.Pairwise.nil,fun _ h=>by cases h⟩
theorem Marks.lt {base:Nat} {Ds:List Nat} {W:World} (h:Marks base Ds W):∀D,D∈Ds→D < W.heap.size:=fun D hD=>(Array.getElem?_eq_some_iff.1 (h.2 D hD).2).1
theorem Marks.more {base D:Nat} {Ds:List Nat} {W:World} (h:Marks base Ds W) (hD:∀D',D'∈Ds→D' < D) (hb:base≤D) (ho:W.heap[D]?=some (.deferred (some []))):Marks base (D::Ds) W :=
 ⟨List.Pairwise.cons (fun b hb=>hD b hb) h.1,fun D' h'=>by
  rcases List.mem_cons.1 h' with rfl|h'
  ·exact ⟨hb,ho⟩
  ·exact h.2 D' h'⟩
theorem Marks.on {base:Nat} {Ds:List Nat} {W W':World} (h:Marks base Ds W) (hb:Below W.heap.size W W'):Marks base Ds W':=⟨h.1,fun D hD=>⟨(h.2 D hD).1,(hb.block D (h.lt D hD)).trans (h.2 D hD).2⟩⟩
theorem Marks.under {base B:Nat} {Ds:List Nat} {W W':World} (h:Marks base Ds W) (hB:∀D,D∈Ds→D < B) (hb:Below B W W'):Marks base Ds W':=⟨h.1,fun D hD=>⟨(h.2 D hD).1,(hb.block D (hB D hD)).trans (h.2 D hD).2⟩⟩
theorem Marks.grown {base:Nat} {Ds:List Nat} {W W':World} {row:Option Nat} (h:Marks base Ds W) (hg:W.grownBy W' row) (hr:∀r,row=some r→r∉Ds):Marks base Ds W':=⟨h.1,fun D hD=>⟨(h.2 D hD).1,(hg.block D (h.lt D hD) (fun e=>hr D e.symm hD)).trans (h.2 D hD).2⟩⟩
theorem Marks.notin {base g:Nat} {Ds:List Nat} {W:World} {o:Obj} (h:Marks base Ds W) (ho:W.heap[g]?=some o) (hn:∀x,o≠.deferred x):g∉Ds:=fun hm=>by
 have:=(h.2 g hm).2
 rw [ho] at this
 exact hn _ (Option.some.inj this)
theorem Marks.row {base g t:Nat} {cs:List Value} {Ds:List Nat} {W:World} (h:Marks base Ds W) (hr:RowL W g t cs):g∉Ds:=h.notin (o:=.cells cs.toArray t (0,0)) hr (fun x e=>by cases e)
def Unmarked (Ds:List Nat) (W W':World):Prop:=W'.os=W.os∧W'.tape=W.tape∧W'.output=W.output∧W'.heap.size=W.heap.size∧∀j,j∉Ds→W'.heap[j]?=W.heap[j]?
theorem Unmarked.row {Ds:List Nat} {W W':World} {g t:Nat} {cs:List Value} (h:Unmarked Ds W W') (hr:RowL W g t cs) (hg:g∉Ds):RowL W' g t cs:=(h.2.2.2.2 g hg).trans hr
theorem Unmarked.under {base B:Nat} {Ds:List Nat} {W W' W0:World} (h:Unmarked Ds W W') (hm:Marks base Ds W) (hB:B≤base) (hb:Below B W0 W):Below B W0 W' :=
 ⟨h.1.trans hb.os,h.2.1.trans hb.tape,h.2.2.1.trans hb.output,by rw [h.2.2.2.1];exact hb.size,fun k hk=>(h.2.2.2.2 k (fun hD=>by have:=(hm.2 k hD).1;omega)).trans (hb.block k hk)⟩
theorem Unmarked.below {base:Nat} {Ds:List Nat} {W W' W0:World} (h:Unmarked Ds W W') (hm:Marks base Ds W) (hb:Below base W0 W):Below base W0 W' :=
 ⟨h.1.trans hb.os,h.2.1.trans hb.tape,h.2.2.1.trans hb.output,by rw [h.2.2.2.1];exact hb.size,fun k hk=>(h.2.2.2.2 k (fun hD=>by have:=(hm.2 k hD).1;omega)).trans (hb.block k hk)⟩
theorem leaves_marks {F:Fence} {n:Nat} {P:Program} {fn:Func} {tmps:Array Value} {R:Ending→World→Prop} {base:Nat}:∀(Ds:List Nat) (W:World),Marks base Ds W→(∀W',Unmarked Ds W W'→LeavesIn F n P fn tmps R [] .returning W')→LeavesInM F n P fn tmps R (Ds.map markD) .returning W:=by
 intro Ds
 induction Ds with
 | nil=>exact fun W _ h=>h W ⟨rfl,rfl,rfl,rfl,fun _ _=>rfl⟩
 | cons D r ih =>
  intro W hm h
  have hD:=hm.2 D List.mem_cons_self
  refine ⟨by simp,.inl ⟨D,W.putObj D (.deferred none),rfl,run_takeDeferred hD.2,?_⟩⟩
  have hg:=grownBy_putObj' W D (.deferred none)
  have hlt:=(Array.getElem?_eq_some_iff.1 hD.2).1
  have hsz:(W.putObj D (.deferred none)).heap.size=W.heap.size:=by simp [World.putObj]
  refine ih _ ⟨(List.pairwise_cons.1 hm.1).2,fun D' h'=>⟨(hm.2 D' (List.mem_cons_of_mem _ h')).1,?_⟩⟩ fun W' hu=>h W' ⟨hu.1.trans hg.os,hu.2.1.trans hg.tape,hu.2.2.1.trans hg.output,hu.2.2.2.1.trans hsz,fun j hj=>?_⟩
  ·have hne:=(List.pairwise_cons.1 hm.1).1 D' h'
   have hm':=hm.2 D' (List.mem_cons_of_mem _ h')
   exact (hg.block D' ((Array.getElem?_eq_some_iff.1 hm'.2).1) (pu5 (by omega))).trans hm'.2
  ·rw [List.mem_cons,not_or] at hj
   rw [hu.2.2.2.2 j hj.2]
   rcases Nat.lt_or_ge j W.heap.size with hj2|hj2
   ·exact hg.block j hj2 (fun e=>hj.1 (Option.some.inj e))
   ·rw [Array.getElem?_eq_none (by rw [hsz];exact hj2),Array.getElem?_eq_none hj2]
end Go.Proofs.YtggnbflbbfdohaaGreat

