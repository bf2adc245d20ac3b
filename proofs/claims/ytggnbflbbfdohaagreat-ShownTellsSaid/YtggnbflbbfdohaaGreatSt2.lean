import Derived.Test.YtggnbflbbfdohaaGreatSt1

namespace Go.Proofs.YtggnbflbbfdohaaGreat
open Go.RowKit
variable {α β : Type} {E : Enc α}

theorem wp_append_OwE [Tags] {P : Program} (w : World) {o : Oper} {a : Act} {K : Act → World → Prop} {Q : Exit → Act → World → Prop} (s x : Operand) (t : TypeId)
  (ho:o.op=.call {callee:=.builtin .append,args:=#[s,x],argTypes:=#[t,t]})
  (base:Nat) (e:TypeId) (z:Value) (k:Nat) (ht:P.underlying t=some (.slice e)) (hinfo:(P.info? e).map (fun i=>(i.zero,i.size,i.bytes))=some (some z,E.k,k)) (hzs:z.cells.size=E.k) (hk:0 < E.k)
  (A0:Option Addr) (n c0:Nat) (l0:List α) (hs:a.eval s=.slice A0 n c0) (hown:OwE E w base e A0 n c0 l0) (D:Nat→Prop) (A:Option Addr) (m c:Nat) (l1:List α) (hx:a.eval x=.slice A m c) (hb:RdE E w D A m l1) (hD:∀b,D b→But w A0 b)
  (N:Nat) (hN:n+m=N) (hbytes:N*k≤140737488355328) (hnm:N≤140737488355328) (hbase:base≤w.heap.size)
  (h:∀A' c' w',OwE E w' base e A' N c' (l0++l1)→Below base w w'→K (a.put o.dst (.slice A' N c')) w'):o.wp P a w K Q:=by
 subst hN;obtain ⟨A',c',w',hr,h2,h3⟩:=run_append_OwE (P:=P) w base t o.type e z k ht hinfo hzs hk A0 n c0 l0 hown D A m c l1 hb hD hbytes hnm hbase;unfold Oper.wp execOp;simp only [ho,resolve,invoke,builtin,Sem.run_bind,Sem.run_pure,Result.andThen_ok,List.map_toArray,List.map_cons,List.map_nil,hs,hx,hr];exact h A' c' w' h2 h3
theorem wpList_append_OwE [Tags] {P : Program} (w : World) {ops : Array Oper} {rest : List Oper} {o : Oper} {a : Act} {Q : Exit → Act → World → Prop} (hgd : o.guard = none) (s x : Operand) (t : TypeId)
  (ho:o.op=.call {callee:=.builtin .append,args:=#[s,x],argTypes:=#[t,t]})
  (base:Nat) (e:TypeId) (z:Value) (k:Nat) (ht:P.underlying t=some (.slice e)) (hinfo:(P.info? e).map (fun i=>(i.zero,i.size,i.bytes))=some (some z,E.k,k)) (hzs:z.cells.size=E.k) (hk:0 < E.k)
  (A0:Option Addr) (n c0:Nat) (l0:List α) (hs:a.eval s=.slice A0 n c0) (hown:OwE E w base e A0 n c0 l0) (D:Nat→Prop) (A:Option Addr) (m c:Nat) (l1:List α) (hx:a.eval x=.slice A m c) (hb:RdE E w D A m l1) (hD:∀b,D b→But w A0 b)
  (N:Nat) (hN:n+m=N) (hbytes:N*k≤140737488355328) (hnm:N≤140737488355328) (hbase:base≤w.heap.size)
  (h:∀A' c' w',OwE E w' base e A' N c' (l0++l1)→Below base w w'→wpList P ops Q rest (a.put o.dst (.slice A' N c')) w'):wpList P ops Q (o::rest) a w :=
 wpList_plain hgd fun _ hK=>wp_append_OwE w s x t ho base e z k ht hinfo hzs hk A0 n c0 l0 hs hown D A m c l1 hx hb hD N hN hbytes hnm hbase (fun A' c' w' h1 h2=>hK _ _ (h A' c' w' h1 h2))

theorem flat_set {css:List (List Value)} (hk:∀cs∈css,cs.length=1) (p:Nat) (u:Value) (hp:p < css.length):css.flatten.set p u=(css.set p [u]).flatten:=by
 induction css generalizing p with
 | nil=>simp at hp
 | cons c r ih =>
  have hc:c.length=1:=hk c List.mem_cons_self
  obtain ⟨x,rfl⟩:∃x,c=[x]:=by match c,hc with|[x],_=>exact ⟨x,rfl⟩
  cases p with
  | zero=>rfl
  | succ p =>
   simp only [List.set_cons_succ,List.flatten_cons,List.singleton_append];rw [ih (fun cs h=>hk cs (List.mem_cons_of_mem _ h)) p (by simpa using hp)]
theorem OwE.store [Tags] {w:World} {base e n c g p:Nat} {l:List α} {u:Value} {x:α} {D:Nat→Prop} (h:OwE E w base e (some ⟨g,0,none⟩) n c l) (hk:E.k=1) (hp:p < n) (hR:E.R w D [u] x) (hD:∀b,D b→But w (some ⟨g,0,none⟩) b) :
  OwE E (w.setCell ⟨g,p,none⟩ u) base e (some ⟨g,0,none⟩) n c (l.set p x):=by
 obtain ⟨css,hown,hc,hl⟩:=h;have hlens:∀cs∈css,cs.length=1:=fun cs hcs=>(hc.lens cs hcs).trans hk
 have hpc:p < css.length:=by rw [hc.1,hl];exact hp
 have hsz:(w.setCell ⟨g,p,none⟩ u).heap.size=w.heap.size:=by simp [World.setCell]
 have hkept:Kept (But w (some ⟨g,0,none⟩)) w (w.setCell ⟨g,p,none⟩ u):=fun b hb=>Below.heap_setCell w ⟨g,p,none⟩ u b (fun e=>hb.2 _ rfl e);have hbut:∀b,But w (some ⟨g,0,none⟩) b→But (w.setCell ⟨g,p,none⟩ u) (some ⟨g,0,none⟩) b:=fun b hb=>⟨hb.1.eq (by rw [hsz];exact Nat.le_refl _) (hkept b hb),hb.2⟩;refine ⟨css.set p [u],?_,⟨by rw [List.length_set,List.length_set];exact hc.1,fun i cs y h1 h2=>?_⟩,by rw [List.length_set];exact hl⟩
 ·rw [←flat_set hlens p u hpc]
  rw [hk] at hown ⊢;exact (World.ownsRow.stored hown p u).1
 ·by_cases hi:p=i
  ·subst hi
   rw [List.getElem?_set_self hpc] at h1;rw [List.getElem?_set_self (by rw [hl];exact hp)] at h2
   cases h1
   cases h2
   exact E.mono hR (fun b hb=>hkept b (hD b hb)) (fun b hb=>hbut b (hD b hb))
  ·rw [List.getElem?_set_ne hi] at h1 h2
   exact E.mono (hc.2 i cs y h1 h2) hkept hbut
theorem OwE.at_ [Tags] {w:World} {base e n c:Nat} {A:Option Addr} {l:List α} (h:OwE E w base e A n c l) (hn:0 < n):∃g,A=some ⟨g,0,none⟩∧base≤g∧g < w.heap.size∧∀i,w.frozen? ⟨g,i,none⟩=false:=by
 obtain ⟨css,hown,_,_⟩:=h
 rcases hown.2 with ⟨_,h1⟩|⟨g,cap,cur,h1,h2,h3,h4⟩
 ·omega
 ·cases h1
  refine ⟨_,rfl,h2,?_,fun i=>frozen_of_row w _ i _ e h3⟩
  rcases Nat.lt_or_ge g w.heap.size with hlt|hge
  ·exact hlt
  ·rw [Array.getElem?_eq_none hge] at h3;cases h3

theorem RdE.get_list {F:Enc β} {w:World} {D:Nat→Prop} {A:Option Addr} {n:Nat} {l:List (List β)} (h:RdE (Enc.list F) w D A n l) {i:Nat} {x:List β} (hx:l[i]?=some x) :
  ∃b o,A=some ⟨b,o,none⟩∧D b∧∃A1 n1 c1,w.cell? ⟨b,o+i,none⟩=some (.slice A1 n1 c1)∧n1≤c1∧RdE F w D A1 n1 x:=by
 have hi:=(List.getElem?_eq_some_iff.1 hx).1;obtain ⟨b,o,e,hb,hc⟩:=h.2 (by have:=h.1;omega);obtain ⟨cs,⟨A1,n1,c1,hcs,hle,hr⟩,hcell⟩:=hc i x hx;refine ⟨b,o,e,hb,A1,n1,c1,?_,hle,hr⟩
 have:=hcell 0 (.slice A1 n1 c1) (by rw [hcs];rfl)
 rwa [show i*(Enc.list F).k+0=i from by show i*1+0=i;omega] at this
end Go.Proofs.YtggnbflbbfdohaaGreat

namespace Go.Proofs.YtggnbflbbfdohaaGreat
open Go.RowKit Plain

structure EntV where
 (slot ino:Int)
 name:List UInt8
 deriving DecidableEq
def ent0:EntV:=⟨0,0,[]⟩
def entEn:Enc EntV:=(Enc.pair Enc.int (Enc.pair Enc.int Enc.text)).as (fun x=>(x.slot,x.ino,x.name))
theorem ent_cells {w:World} {D:Nat→Prop} {cs:List Value} {x:EntV} (h:entEn.R w D cs x):cs=[.int .i64 x.slot,.int .i64 x.ino,.string ⟨x.name.toArray⟩]:=by
 obtain ⟨c1,c2,rfl,h1,c3,c4,rfl,h2,h3⟩:=h
 have e1:c1=[.int .i64 x.slot]:=h1
 have e2:c3=[.int .i64 x.ino]:=h2
 have e3:c4=[.string ⟨x.name.toArray⟩]:=h3
 rw [e1,e2,e3]
 rfl
theorem ent_get {w:World} {D:Nat→Prop} {A:Option Addr} {n k:Nat} {l:List EntV} {x:EntV} (h:RdE entEn w D A n l) (hx:l[k]?=some x) :
  ∃b o,A=some ⟨b,o,none⟩∧D b∧∀j v,[Value.int .i64 x.slot,.int .i64 x.ino,.string ⟨x.name.toArray⟩][j]?=some v→w.cell? ⟨b,o+k*3+j,none⟩=some v:=by
 have hk:=(List.getElem?_eq_some_iff.1 hx).1;obtain ⟨b,o,e,hb,hc⟩:=h.2 (by rw [←h.1];omega);obtain ⟨cs,hR,hcs⟩:=hc k x hx
 have e2:=ent_cells hR
 subst e2;refine ⟨b,o,e,hb,fun j v hv=>?_⟩
 have:=hcs j v hv
 rw [Nat.add_assoc];exact this
def cellsE (x:EntV):List Value:=[.int .i64 x.slot,.int .i64 x.ino,.string ⟨x.name.toArray⟩]
def flatE (l:List EntV):List Value:=l.flatMap cellsE
end Go.Proofs.YtggnbflbbfdohaaGreat

namespace Go.Proofs.YtggnbflbbfdohaaGreat
open Go.RowKit Plain

structure AttV where
 (h o:Int)
 r:List UInt8
 (l i g s:Int)
 deriving DecidableEq
def att0:AttV:=⟨0,0,[],0,0,0,0⟩
end Go.Proofs.YtggnbflbbfdohaaGreat

namespace Go.Proofs.YtggnbflbbfdohaaGreat
open Go.RowKit Plain

structure NodV where
 (k p n g:Int)
 data:List UInt8
 ents:List EntV
 att:AttV
 deriving DecidableEq
def nod0:NodV:=⟨0,0,0,0,[],[],att0⟩
def nodAt (ns:List NodV) (i:Int):NodV:=if 1≤i∧i≤(ns.length:Int) then (ns[(i - 1).toNat]?).getD nod0 else nod0
def isDir (ns:List NodV) (i:Int):Bool:=decide ((nodAt ns i).k=1)
structure WayV where
 (ino up:Int)
 name:List UInt8
 deriving DecidableEq
abbrev StW:=List WayV×List (Int×Nat)
def cameW (l:List WayV) (i:Int):Bool:=l.any (fun x=>x.ino==i)
def oneW (dir:Int) (p:Nat) (s:StW) (x:EntV×Nat):StW :=
 if cameW s.1 x.1.ino then (s.1,s.2++[(dir,x.2)]) else (s.1++[⟨x.1.ino,p,x.1.name⟩],s.2)
def dirsOf (ns:List NodV) (l:List EntV):List (EntV×Nat):=l.zipIdx.filter (fun x=>isDir ns x.1.ino)
def visitW (ns:List NodV) (p:Nat) (s:StW):StW:=match s.1[p]? with
 | none=>s
 | some y=>(dirsOf ns (nodAt ns y.ino).ents).foldl (oneW y.ino p) s
def runW (ns : List NodV) : Nat → Nat → StW → StW
 | 0,_,s=>s
 | f+1,p,s=>if p < s.1.length then runW ns f (p+1) (visitW ns p s) else s
def rootW (ns:List NodV) (s:StW) (i:Int):StW:=if isDir ns i&&!cameW s.1 i then runW ns (ns.length - s.1.length) s.1.length (s.1++[⟨i,-1,[]⟩],s.2) else s
def walkW (ns:List NodV) (ff:List Int):StW:=ff.foldl (rootW ns) ([],[])

theorem isDir_in {ns:List NodV} {i:Int} (h:isDir ns i=true):1≤i∧i≤(ns.length:Int):=by
 unfold isDir nodAt at h
 split at h
 ·assumption
 ·simp [nod0] at h
theorem came_iff {l:List WayV} {i:Int}:cameW l i=true↔∃x∈l,x.ino=i:=by simp [cameW]
theorem came_not {l:List WayV} {i:Int} (h:cameW l i=false):∀x∈l,x.ino≠i:=by
 intro x hx e
 have:=(came_iff (l:=l) (i:=i)).2 ⟨x,hx,e⟩
 rw [h] at this
 cases this

def OkW (ns:List NodV) (l:List WayV):Prop:=(∀x∈l,isDir ns x.ino=true)∧(l.map WayV.ino).Nodup
theorem OkW.nil_ (ns:List NodV):OkW ns []:=⟨fun _ h=>(by cases h),List.nodup_nil⟩
theorem OkW.snoc {ns:List NodV} {l:List WayV} {x:WayV} (h:OkW ns l) (hd:isDir ns x.ino=true) (hc:cameW l x.ino=false):OkW ns (l++[x]):=by
 refine ⟨fun y hy=>?_,?_⟩
 ·rcases List.mem_append.1 hy with h1|h1
  ·exact h.1 y h1
  ·rw [List.mem_singleton] at h1;rw [h1];exact hd
 ·rw [List.map_append,List.nodup_append]
  refine ⟨h.2,by simp,?_⟩;intro a ha b hb e;simp at hb;subst hb;obtain ⟨y,hy,rfl⟩:=List.mem_map.1 ha;exact came_not hc y hy e
theorem nodup_le:∀(n:Nat) (l:List Int),l.Nodup→(∀x∈l,1≤x∧x≤(n:Int))→l.length≤n:=by
 intro n
 induction n with
 | zero =>
  intro l _ h
  cases l with
  | nil=>exact Nat.le_refl _
  | cons x r=>have:=h x List.mem_cons_self;omega
 | succ n ih =>
  intro l hn h
  have h1:(l.erase ((n:Int)+1)).length≤n:=by
   refine ih _ (hn.erase _) fun x hx=>?_;have h2:=(List.Nodup.mem_erase_iff hn).1 hx;have h3:=h x h2.2
   have:=h2.1
   omega
  have h2:l.length≤(l.erase ((n:Int)+1)).length+1:=by
   rw [List.length_erase]
   split <;> omega
  omega
theorem OkW.le {ns:List NodV} {l:List WayV} (h:OkW ns l):l.length≤ns.length:=by
 have:=nodup_le ns.length (l.map WayV.ino) h.2 (fun x hx=>by
  obtain ⟨y,hy,rfl⟩:=List.mem_map.1 hx
  exact isDir_in (h.1 y hy))
 simpa using this
theorem OkW.lt {ns:List NodV} {l:List WayV} {i:Int} (h:OkW ns l) (hd:isDir ns i=true) (hc:cameW l i=false):l.length < ns.length:=by
 have:=(h.snoc (x:=⟨i,0,[]⟩) hd hc).le
 simp at this;omega
theorem dirsOf_dir {ns:List NodV} {l:List EntV}:∀x∈dirsOf ns l,isDir ns x.1.ino=true:=fun _ hx=>(List.mem_filter.1 hx).2

theorem foldl_keep {α β:Type} {f:β→α→β} {P:β→Prop} (l:List α) (s:β) (hs:P s) (h:∀s x,x∈l→P s→P (f s x)):P (l.foldl f s):=by
 induction l generalizing s with
 | nil=>exact hs
 | cons x r ih=>exact ih _ (h s x List.mem_cons_self hs) (fun s y hy=>h s y (List.mem_cons_of_mem _ hy))
theorem one_ok {ns:List NodV} {dir:Int} {p:Nat} {s:StW} {x:EntV×Nat} (h:OkW ns s.1) (hd:isDir ns x.1.ino=true):OkW ns (oneW dir p s x).1:=by
 unfold oneW
 cases hc:cameW s.1 x.1.ino with
 | true=>simpa using h
 | false=>simpa using h.snoc (x:=⟨x.1.ino,p,x.1.name⟩) hd hc
theorem one_pre {dir:Int} {p:Nat} {s:StW} {x:EntV×Nat}:s.1 <+: (oneW dir p s x).1:=by
 unfold oneW
 split
 ·exact List.prefix_refl _
 ·exact List.prefix_append _ _
theorem visit_ok {ns:List NodV} {p:Nat} {s:StW} (h:OkW ns s.1):OkW ns (visitW ns p s).1:=by
 unfold visitW
 split
 ·exact h
 ·exact foldl_keep (P:=fun s:StW=>OkW ns s.1) _ _ h (fun _ x hx hs=>one_ok hs (dirsOf_dir x hx))
theorem visit_pre {ns:List NodV} {p:Nat} {s:StW}:s.1 <+: (visitW ns p s).1:=by
 unfold visitW
 split
 ·exact List.prefix_refl _
 ·exact foldl_keep (P:=fun t:StW=>s.1 <+: t.1) _ _ (List.prefix_refl _) (fun _ _ _ hs=>hs.trans one_pre)
theorem run_ok {ns : List NodV} : ∀ (f p : Nat) (s : StW), OkW ns s.1 → OkW ns (runW ns f p s).1
 | 0,_,_,h=>h
 | f+1,p,s,h=>by
  unfold runW
  split
  ·exact run_ok f _ _ (visit_ok h)
  ·exact h
theorem run_pre {ns : List NodV} : ∀ (f p : Nat) (s : StW), s.1 <+: (runW ns f p s).1
 | 0,_,_=>List.prefix_refl _
 | f+1,p,s=>by
  unfold runW
  split
  ·exact visit_pre.trans (run_pre f _ _)
  ·exact List.prefix_refl _
theorem root_ok {ns:List NodV} {s:StW} {i:Int} (h:OkW ns s.1):OkW ns (rootW ns s i).1:=by
 unfold rootW
 split
 ·rename_i hc
  rw [Bool.and_eq_true,Bool.not_eq_true'] at hc;exact run_ok _ _ _ (h.snoc (x:=⟨i,-1,[]⟩) hc.1 hc.2)
 ·exact h
theorem walk_ok (ns:List NodV) (ff:List Int):OkW ns (walkW ns ff).1:=foldl_keep (P:=fun s:StW=>OkW ns s.1) _ _ (OkW.nil_ ns) (fun _ _ _ hs=>root_ok hs)
theorem walk_snoc (ns:List NodV) (ff:List Int) (i:Int):walkW ns (ff++[i])=rootW ns (walkW ns ff) i:=by simp [walkW]

theorem one_tw {dir:Int} {p:Nat} {s:StW} {x:EntV×Nat}:(oneW dir p s x).2.length≤s.2.length+1:=by
 unfold oneW
 split <;> simp
theorem fold_tw (dir : Int) (p : Nat) : ∀ (l : List (EntV × Nat)) (s : StW), (l.foldl (oneW dir p) s).2.length ≤ s.2.length + l.length
 | [],s=>by simp
 | x::r,s=>by
  have h1:=fold_tw dir p r (oneW dir p s x);have h2:=one_tw (dir:=dir) (p:=p) (s:=s) (x:=x);simp only [List.foldl_cons,List.length_cons];omega
def Many (ns:List NodV):Prop:=ns.length≤24∧∀x∈ns,x.ents.length≤16
theorem nodAt_ents {ns:List NodV} (h:Many ns) (i:Int):(nodAt ns i).ents.length≤16:=by
 unfold nodAt
 split
 ·cases hx:ns[(i - 1).toNat]? with
  | none=>simp [nod0]
  | some x=>simpa using h.2 x (List.mem_of_getElem? hx)
 ·simp [nod0]
theorem dirsOf_len (ns:List NodV) (l:List EntV):(dirsOf ns l).length≤l.length:=by
 unfold dirsOf;exact Nat.le_trans (List.length_filter_le _ _) (by simp)
theorem visit_tw {ns:List NodV} (h:Many ns) (p:Nat) (s:StW):(visitW ns p s).2.length≤s.2.length+16:=by
 unfold visitW
 split
 ·omega
 ·rename_i y _
  have h1:=fold_tw y.ino p (dirsOf ns (nodAt ns y.ino).ents) s;have h2:=dirsOf_len ns (nodAt ns y.ino).ents;have h3:=nodAt_ents h y.ino;omega
end Go.Proofs.YtggnbflbbfdohaaGreat

namespace Go.Proofs.YtggnbflbbfdohaaGreat
open Go.RowKit Plain

theorem run_tw {ns : List NodV} (h : Many ns) : ∀ (f p : Nat) (s : StW), p ≤ s.1.length → s.2.length ≤ 16 * p → (runW ns f p s).2.length ≤ 16 * (runW ns f p s).1.length
 | 0,p,s,h1,h2=>by show s.2.length≤16*s.1.length;omega
 | f+1,p,s,h1,h2=>by
  unfold runW
  split
  ·have h3:=visit_tw h p s
   have h4:=(visit_pre (ns:=ns) (p:=p) (s:=s)).length_le;exact run_tw h f _ _ (by omega) (by omega)
  ·omega
theorem root_tw {ns:List NodV} (h:Many ns) {s:StW} {i:Int} (hs:s.2.length≤16*s.1.length):(rootW ns s i).2.length≤16*(rootW ns s i).1.length:=by
 unfold rootW
 split
 ·exact run_tw h _ _ _ (by simp) (by simpa using hs)
 ·exact hs
theorem walk_tw {ns:List NodV} (h:Many ns) (ff:List Int):(walkW ns ff).2.length≤16*(walkW ns ff).1.length:=foldl_keep (P:=fun s:StW=>s.2.length≤16*s.1.length) _ _ (by simp) (fun _ _ _ hs=>root_tw h hs)

def reachW (ns:List NodV) (l:List WayV) (i:Int):Bool:=l.any (fun y=>y.ino==i||(nodAt ns y.ino).ents.any (fun e=>e.ino==i))
def keepE (t:List (Int×Nat)) (i:Int) (l:List EntV):List EntV:=(l.zipIdx.filter (fun x=>!t.contains (i,x.2))).map (fun x=>x.1)
def pruneN (t:List (Int×Nat)) (r:Bool) (i:Int) (n:NodV):NodV:=if r then {n with ents:=keepE t i n.ents} else nod0
def pruneW (ns:List NodV) (s:StW):List NodV:=ns.mapIdx (fun j n=>pruneN s.2 (reachW ns s.1 ((j:Int)+1)) ((j:Int)+1) n)

theorem fold_sim (d:Int) (p:Nat):∀(xs:List (EntV×Nat)) (s:StW),(xs.map (fun x=>x.2)).Nodup→(∀x∈xs,(d,x.2)∉s.2) →
  (xs.filter (fun x=>!(xs.foldl (oneW d p) s).2.contains (d,x.2))).foldl (oneW d p) (s.1,[])=((xs.foldl (oneW d p) s).1,[])∧(∀q∈s.2,q∈(xs.foldl (oneW d p) s).2)∧(∀q∈(xs.foldl (oneW d p) s).2,q∈s.2∨∃x∈xs,q=(d,x.2)):=by
 intro xs
 induction xs with
 | nil=>intro s _ _;exact ⟨rfl,fun q h=>h,fun q h=>.inl h⟩
 | cons x r ih =>
  intro s hn hs;rw [List.map_cons,List.nodup_cons] at hn;have hx:∀y∈r,y.2≠x.2:=fun y hy e=>hn.1 (by rw [←e];exact List.mem_map_of_mem hy);simp only [List.foldl_cons]
  cases hc:cameW s.1 x.1.ino with
  | true =>
   have h1:oneW d p s x=(s.1,s.2++[(d,x.2)]):=by unfold oneW;rw [if_pos hc]
   rw [h1]
   obtain ⟨i1,i2,i3⟩:=ih (s.1,s.2++[(d,x.2)]) hn.2 (fun y hy h=>by
    rcases List.mem_append.1 h with h|h
    ·exact hs y (List.mem_cons_of_mem _ hy) h
    ·rw [List.mem_singleton] at h;exact hx y hy (Prod.mk.inj h).2)
   have hm:(d,x.2)∈(List.foldl (oneW d p) (s.1,s.2++[(d,x.2)]) r).2:=i2 _ (by simp);refine ⟨?_,fun q hq=>i2 q (List.mem_append_left _ hq),fun q hq=>?_⟩
   ·rw [List.filter_cons_of_neg (by simpa using hm)]
    exact i1
   ·rcases i3 q hq with h|⟨y,hy,e⟩
    ·rcases List.mem_append.1 h with h|h
     ·exact .inl h
     ·rw [List.mem_singleton] at h;exact .inr ⟨x,List.mem_cons_self,h⟩
    ·exact .inr ⟨y,List.mem_cons_of_mem _ hy,e⟩
  | false =>
   have h1:oneW d p s x=(s.1++[⟨x.1.ino,p,x.1.name⟩],s.2):=by unfold oneW;rw [hc];rfl
   rw [h1];obtain ⟨i1,i2,i3⟩:=ih (s.1++[⟨x.1.ino,p,x.1.name⟩],s.2) hn.2 (fun y hy=>hs y (List.mem_cons_of_mem _ hy))
   have hm:(d,x.2)∉(List.foldl (oneW d p) (s.1++[⟨x.1.ino,p,x.1.name⟩],s.2) r).2:=by
    intro h
    rcases i3 _ h with h|⟨y,hy,e⟩
    ·exact hs x List.mem_cons_self h
    ·exact hx y hy (Prod.mk.inj e).2.symm
   refine ⟨?_,i2,fun q hq=>?_⟩
   ·rw [List.filter_cons_of_pos (by simpa using hm),List.foldl_cons]
    have h2:oneW d p (s.1,[]) x=(s.1++[⟨x.1.ino,p,x.1.name⟩],[]):=by unfold oneW;rw [show (s.1,([]:List (Int×Nat))).1=s.1 from rfl,hc];rfl
    rw [h2];exact i1
   ·rcases i3 q hq with h|⟨y,hy,e⟩
    ·exact .inl h
    ·exact .inr ⟨y,List.mem_cons_of_mem _ hy,e⟩
theorem one_more (d : Int) (p : Nat) (l : List WayV) (t : List (Int × Nat)) : ∀ (xs : List (EntV × Nat)) (s : StW), s.2 ≠ [] → (xs.foldl (oneW d p) s).2 ≠ []
 | [],_,h=>h
 | x::r,s,h=>one_more d p l t r _ (by unfold oneW;split <;> simp [h])
theorem fold_same (d:Int) (p:Nat):∀(xs ys:List (EntV×Nat)) (l:List WayV),xs.map (fun x=>x.1)=ys.map (fun x=>x.1)→(xs.foldl (oneW d p) (l,[])).2=[]→ys.foldl (oneW d p) (l,[])=xs.foldl (oneW d p) (l,[]):=by
 intro xs
 induction xs with
 | nil =>
  intro ys l h _
  have:ys=[]:=by cases ys with|nil=>rfl|cons y r=>simp at h
  rw [this]
 | cons x r ih =>
  intro ys l h h0
  cases ys with
  | nil=>simp at h
  | cons y q =>
   simp only [List.map_cons,List.cons.injEq] at h;simp only [List.foldl_cons] at h0 ⊢
   cases hc:cameW l x.1.ino with
   | true =>
    exfalso
    refine one_more d p [] [] r (oneW d p (l,[]) x) ?_ h0;unfold oneW;simp [hc]
   | false =>
    have h1:oneW d p (l,[]) x=(l++[⟨x.1.ino,p,x.1.name⟩],[]):=by unfold oneW;simp [hc]
    have h2:oneW d p (l,[]) y=(l++[⟨x.1.ino,p,x.1.name⟩],[]):=by unfold oneW;rw [←h.1];simp [hc]
    rw [h1] at h0 ⊢;rw [h2];exact ih q _ h.2 h0

def AheadW (p:Nat) (s:StW):Prop:=∀q∈s.2,∃j y,j < p∧s.1[j]?=some y∧y.ino=q.1
def AddsW (p:Nat) (s r:StW):Prop:=s.1 <+: r.1∧(∀q∈s.2,q∈r.2)∧∀q∈r.2,q∈s.2∨∃j y,p≤j∧r.1[j]?=some y∧y.ino=q.1
theorem AddsW.refl (p:Nat) (s:StW):AddsW p s s:=⟨List.prefix_refl _,fun _ h=>h,fun _ h=>.inl h⟩
theorem pre_get {l r:List WayV} {j:Nat} {y:WayV} (h:l <+: r) (hy:l[j]?=some y):r[j]?=some y:=by
 obtain ⟨t,rfl⟩:=h;rw [List.getElem?_append_left (List.getElem?_eq_some_iff.1 hy).1];exact hy
theorem AddsW.trans {p p':Nat} {s r u:StW} (h:AddsW p s r) (k:AddsW p' r u) (hp:p≤p'):AddsW p s u:=by
 refine ⟨h.1.trans k.1,fun q hq=>k.2.1 q (h.2.1 q hq),fun q hq=>?_⟩
 rcases k.2.2 q hq with h1|⟨j,y,h1,h2,h3⟩
 ·rcases h.2.2 q h1 with h1|⟨j,y,h1,h2,h3⟩
  ·exact .inl h1
  ·exact .inr ⟨j,y,h1,pre_get k.1 h2,h3⟩
 ·exact .inr ⟨j,y,by omega,h2,h3⟩
theorem AheadW.mono {p p':Nat} {s:StW} (h:AheadW p s) (hp:p≤p'):AheadW p' s:=fun q hq=>by
 obtain ⟨j,y,h1,h2,h3⟩:=h q hq;exact ⟨j,y,by omega,h2,h3⟩
theorem AheadW.adds {p p':Nat} {s r:StW} (h:AheadW p s) (k:∀q∈r.2,q∈s.2∨∃j y,j < p'∧r.1[j]?=some y∧y.ino=q.1) (hs:s.1 <+: r.1) (hp:p≤p'):AheadW p' r:=fun q hq=>by
 rcases k q hq with h1|h1
 ·obtain ⟨j,y,h2,h3,h4⟩:=h q h1
  exact ⟨j,y,by omega,pre_get hs h3,h4⟩
 ·exact h1
theorem dirsOf_nodup (ns:List NodV) (l:List EntV):((dirsOf ns l).map (fun x=>x.2)).Nodup:=by
 unfold dirsOf;refine List.Nodup.sublist ((List.filter_sublist).map _) ?_;rw [List.zipIdx_map_snd];exact List.nodup_range'
theorem nodup_get {l:List WayV} (h:(l.map WayV.ino).Nodup) {i j:Nat} {x y:WayV} (hx:l[i]?=some x) (hy:l[j]?=some y) (e:x.ino=y.ino):i=j:=by
 have h1:(l.map WayV.ino)[i]?=some x.ino:=by rw [List.getElem?_map,hx];rfl
 have h2:(l.map WayV.ino)[j]?=some x.ino:=by rw [List.getElem?_map,hy,e];rfl
 obtain ⟨hi,h3⟩:=List.getElem?_eq_some_iff.1 h1;obtain ⟨hj,h4⟩:=List.getElem?_eq_some_iff.1 h2;have hp:=List.pairwise_iff_getElem.1 h
 rcases Nat.lt_trichotomy i j with hlt|he|hgt
 ·exact absurd (h3.trans h4.symm) (hp i j hi hj hlt)
 ·exact he
 ·exact absurd (h4.trans h3.symm) (hp j i hj hi hgt)
theorem fresh_dir {ns:List NodV} {p:Nat} {s:StW} {y:WayV} (ho:OkW ns s.1) (ha:AheadW p s) (hy:s.1[p]?=some y) (k:Nat):(y.ino,k)∉s.2:=by
 intro h;obtain ⟨j,z,h1,h2,h3⟩:=ha _ h
 have:=nodup_get ho.2 h2 hy h3
 omega
theorem visit_adds {ns:List NodV} {p:Nat} {s:StW} (ho:OkW ns s.1) (ha:AheadW p s):AddsW p s (visitW ns p s)∧AheadW (p+1) (visitW ns p s):=by
 unfold visitW
 cases hy:s.1[p]? with
 | none=>exact ⟨AddsW.refl _ _,ha.mono (by omega)⟩
 | some y =>
  have hsim:=fold_sim y.ino p (dirsOf ns (nodAt ns y.ino).ents) s (dirsOf_nodup _ _) (fun x _=>fresh_dir ho ha hy x.2);have hpre:s.1 <+: ((dirsOf ns (nodAt ns y.ino).ents).foldl (oneW y.ino p) s).1:=foldl_keep (P:=fun t:StW=>s.1 <+: t.1) _ _ (List.prefix_refl _) (fun _ _ _ hs=>hs.trans one_pre)
  have hq:∀q∈((dirsOf ns (nodAt ns y.ino).ents).foldl (oneW y.ino p) s).2,q∈s.2∨(((dirsOf ns (nodAt ns y.ino).ents).foldl (oneW y.ino p) s).1[p]?=some y∧y.ino=q.1):=fun q hq=>by
   rcases hsim.2.2 q hq with h|⟨x,_,rfl⟩
   ·exact .inl h
   ·exact .inr ⟨pre_get hpre hy,rfl⟩
  refine ⟨⟨hpre,hsim.2.1,fun q h=>?_⟩,ha.adds (fun q h=>?_) hpre (by omega)⟩
  ·rcases hq q h with h1|⟨h1,h2⟩
   ·exact .inl h1
   ·exact .inr ⟨p,y,Nat.le_refl _,h1,h2⟩
  ·rcases hq q h with h1|⟨h1,h2⟩
   ·exact .inl h1
   ·exact .inr ⟨p,y,by omega,h1,h2⟩
theorem run_adds {ns : List NodV} : ∀ (f p : Nat) (s : StW), OkW ns s.1 → AheadW p s → p ≤ s.1.length → AddsW p s (runW ns f p s) ∧ AheadW (runW ns f p s).1.length (runW ns f p s)
 | 0,p,s,_,ha,hp=>⟨AddsW.refl _ _,ha.mono hp⟩
 | f+1,p,s,ho,ha,hp=>by
  unfold runW
  split
  ·obtain ⟨h1,h2⟩:=visit_adds ho ha
   have h3:=run_adds f (p+1) _ (visit_ok (p:=p) ho) h2 (by have:=h1.1.length_le;omega);exact ⟨h1.trans h3.1 (by omega),h3.2⟩
  ·exact ⟨AddsW.refl _ _,ha.mono hp⟩
theorem root_adds {ns:List NodV} {s:StW} {i:Int} (ho:OkW ns s.1) (ha:AheadW s.1.length s):AddsW s.1.length s (rootW ns s i)∧AheadW (rootW ns s i).1.length (rootW ns s i):=by
 unfold rootW
 split
 ·rename_i hc
  rw [Bool.and_eq_true,Bool.not_eq_true'] at hc;have hpre:s.1 <+: s.1++[⟨i,-1,[]⟩]:=List.prefix_append _ _;have ha':AheadW s.1.length (s.1++[⟨i,-1,[]⟩],s.2):=ha.adds (fun q h=>.inl h) hpre (Nat.le_refl _);obtain ⟨h1,h2⟩:=run_adds (ns.length - s.1.length) s.1.length _ (ho.snoc (x:=⟨i,-1,[]⟩) hc.1 hc.2) ha' (by simp);exact ⟨AddsW.trans (s:=s) (r:=(s.1++[⟨i,-1,[]⟩],s.2)) ⟨hpre,fun _ h=>h,fun _ h=>.inl h⟩ h1 (Nat.le_refl _),h2⟩
 ·exact ⟨AddsW.refl _ _,ha⟩
end Go.Proofs.YtggnbflbbfdohaaGreat

namespace Go.Proofs.YtggnbflbbfdohaaGreat
open Go.RowKit Plain

theorem nodAt_get {ns:List NodV} {j:Nat} {n:NodV} (h:ns[j]?=some n):nodAt ns ((j:Int)+1)=n:=by
 have hj:=(List.getElem?_eq_some_iff.1 h).1;unfold nodAt;rw [if_pos (by omega),show ((j:Int)+1 - 1).toNat=j from by omega,h]
 rfl
theorem nodAt_out {ns:List NodV} {i:Int} (h:¬(1≤i∧i≤(ns.length:Int))):nodAt ns i=nod0:=by unfold nodAt;rw [if_neg h]
theorem nodAt_in {ns:List NodV} {i:Int} (h:1≤i∧i≤(ns.length:Int)):∃(j:Nat) (n:NodV),i=(j:Int)+1∧ns[j]?=some n∧nodAt ns i=n:=by
 obtain ⟨j,hj⟩:=Int.eq_ofNat_of_zero_le (show 0≤i - 1 by omega)
 have hl:j < ns.length:=by omega
 refine ⟨j,ns[j],by omega,List.getElem?_eq_getElem hl,?_⟩;rw [show i=(j:Int)+1 from by omega];exact nodAt_get (List.getElem?_eq_getElem hl)
theorem prune_len (ns:List NodV) (s:StW):(pruneW ns s).length=ns.length:=by simp [pruneW]
theorem prune_get {ns:List NodV} {s:StW} {j:Nat} {n:NodV} (h:ns[j]?=some n):(pruneW ns s)[j]?=some (pruneN s.2 (reachW ns s.1 ((j:Int)+1)) ((j:Int)+1) n):=by
 unfold pruneW;rw [List.getElem?_mapIdx,h]
 rfl
theorem pruneN_zero (t:List (Int×Nat)) (r:Bool) (i:Int):pruneN t r i nod0=nod0:=by
 unfold pruneN
 split <;> simp [nod0,keepE]
theorem prune_at (ns:List NodV) (s:StW) (i:Int):nodAt (pruneW ns s) i=pruneN s.2 (reachW ns s.1 i) i (nodAt ns i):=by
 by_cases h:1≤i∧i≤(ns.length:Int)
 ·obtain ⟨j,n,rfl,hn,e⟩:=nodAt_in h
  rw [e];exact nodAt_get (prune_get hn)
 ·rw [nodAt_out h,nodAt_out (by rw [prune_len];exact h),pruneN_zero]
theorem prune_dir (ns:List NodV) (s:StW) (i:Int):isDir (pruneW ns s) i=(isDir ns i&&reachW ns s.1 i):=by
 unfold isDir;rw [prune_at];unfold pruneN
 cases reachW ns s.1 i <;> simp [nod0]
theorem reach_way {ns:List NodV} {l:List WayV} {y:WayV} (h:y∈l):reachW ns l y.ino=true:=by
 unfold reachW;rw [List.any_eq_true];exact ⟨y,h,by simp⟩
theorem reach_ent {ns:List NodV} {l:List WayV} {y:WayV} {e:EntV} (h:y∈l) (he:e∈(nodAt ns y.ino).ents):reachW ns l e.ino=true:=by
 unfold reachW;rw [List.any_eq_true];refine ⟨y,h,?_⟩;rw [Bool.or_eq_true,List.any_eq_true];exact .inr ⟨e,he,by simp⟩
theorem filter_filter_comm {α:Type} (p q:α→Bool) (l:List α):(l.filter p).filter q=(l.filter q).filter p:=by
 simp only [List.filter_filter]
 congr 1
 funext x
 exact Bool.and_comm _ _
theorem map_filter_zip (q : EntV → Bool) : ∀ (l : List EntV) (k : Nat), ((l.zipIdx k).filter (fun x => q x.1)).map (fun x => x.1) = l.filter q
 | [],_=>rfl
 | x::r,k=>by
  rw [List.zipIdx_cons,List.filter_cons,List.filter_cons]
  show (if q x=true then _ else _:List (EntV×Nat)).map _=_
  cases q x
  ·simpa using map_filter_zip q r (k+1)
  ·simpa using map_filter_zip q r (k+1)
def AgreeW (p:Nat) (T:StW) (R:StW):Prop:=R.1 <+: T.1∧∀q:Int×Nat,(∃j y,j < p∧R.1[j]?=some y∧y.ino=q.1)→(q∈T.2↔q∈R.2)
theorem AgreeW.back {ns:List NodV} {T s R:StW} {p m:Nat} (hA:AgreeW m T R) (ho:OkW ns R.1) (k:AddsW p s R) (hp:p≤m):AgreeW p T s:=by
 refine ⟨k.1.trans hA.1,?_⟩
 rintro q ⟨j,y,h1,h2,h3⟩
 rw [hA.2 q ⟨j,y,by omega,pre_get k.1 h2,h3⟩]
 constructor
 ·intro h
  rcases k.2.2 q h with h4|⟨i,z,h4,h5,h6⟩
  ·exact h4
  ·exfalso
   have:=nodup_get ho.2 (pre_get k.1 h2) h5 (h3.trans h6.symm)
   omega
 ·exact k.2.1 q
theorem visit_sim {ns:List NodV} {T s:StW} {p:Nat} (ho:OkW ns s.1) (ha:AheadW p s) (hA:AgreeW (p+1) T (visitW ns p s)):visitW (pruneW ns T) p (s.1,[])=((visitW ns p s).1,[]):=by
 have hvp:=visit_pre (ns:=ns) (p:=p) (s:=s);unfold visitW at hA hvp ⊢
 show (match s.1[p]? with|none=>_|some y=>_)=_
 cases hy:s.1[p]? with
 | none=>rfl
 | some y =>
  rw [hy] at hA hvp;have hym:y∈s.1:=List.mem_of_getElem? hy;have hyT:y∈T.1:=hA.1.subset (hvp.subset hym);have hsim:=fold_sim y.ino p (dirsOf ns (nodAt ns y.ino).ents) s (dirsOf_nodup _ _) (fun x _=>fresh_dir ho ha hy x.2);obtain ⟨R,hR⟩:∃R,(dirsOf ns (nodAt ns y.ino).ents).foldl (oneW y.ino p) s=R:=⟨_,rfl⟩;simp only [hR] at hA hsim hvp ⊢
  have hag:∀k,T.2.contains (y.ino,k)=R.2.contains (y.ino,k):=fun k=>by
   have:=hA.2 (y.ino,k) ⟨p,y,by omega,pre_get hvp hy,rfl⟩
   rw [Bool.eq_iff_iff,List.contains_iff_mem,List.contains_iff_mem];exact this
  have hents:(nodAt (pruneW ns T) y.ino).ents=keepE T.2 y.ino (nodAt ns y.ino).ents:=by
   rw [prune_at];unfold pruneN;rw [reach_way hyT]
   rfl
  rw [hents]
  have hmap:((dirsOf ns (nodAt ns y.ino).ents).filter (fun x=>!R.2.contains (y.ino,x.2))).map (fun x=>x.1)=(dirsOf (pruneW ns T) (keepE T.2 y.ino (nodAt ns y.ino).ents)).map (fun x=>x.1):=by
   unfold dirsOf;rw [map_filter_zip (fun e=>isDir (pruneW ns T) e.ino)];unfold keepE;rw [List.filter_map]
   congr 1
   rw [filter_filter_comm];simp only [hag]
   apply List.filter_congr
   intro x hx
   have hxe:x.1∈(nodAt ns y.ino).ents:=by
    have:=List.mem_map_of_mem (f:=fun z:EntV×Nat=>z.1) ((List.mem_filter.1 hx).1)
    simpa using this
   show isDir ns x.1.ino=isDir (pruneW ns T) x.1.ino
   rw [prune_dir,reach_ent hyT hxe,Bool.and_true]
  rw [fold_same y.ino p _ _ s.1 hmap (by rw [hsim.1])];exact hsim.1
theorem run_sim {ns : List NodV} {T : StW} : ∀ (f p : Nat) (s : StW), OkW ns s.1 → AheadW p s → p ≤ s.1.length → AgreeW (runW ns f p s).1.length T (runW ns f p s) → runW (pruneW ns T) f p (s.1, []) = ((runW ns f p s).1, [])
 | 0,_,_,_,_,_,_=>rfl
 | f+1,p,s,ho,ha,hp,hA=>by
  unfold runW at hA ⊢
  show (if p < s.1.length then _ else _)=_
  by_cases h:p < s.1.length
  ·simp only [if_pos h] at hA ⊢
   obtain ⟨h1,h2⟩:=visit_adds (p:=p) ho ha;have ho':=visit_ok (p:=p) ho;have hl:=h1.1.length_le;have h3:=run_adds f (p+1) _ ho' h2 (by omega);have hl3:=h3.1.1.length_le;rw [visit_sim ho ha (hA.back (run_ok f (p+1) _ ho') h3.1 (by omega))];exact run_sim f (p+1) _ ho' h2 (by omega) hA
  ·simp only [if_neg h]
theorem root_sim {ns:List NodV} {T s:StW} {i:Int} (ho:OkW ns s.1) (ha:AheadW s.1.length s) (hA:AgreeW (rootW ns s i).1.length T (rootW ns s i)):rootW (pruneW ns T) (s.1,[]) i=((rootW ns s i).1,[]):=by
 unfold rootW at hA ⊢;rw [prune_dir,prune_len]
 show (if (_&&!cameW s.1 i)=true then _ else _)=_
 cases hd:isDir ns i with
 | false=>simp
 | true =>
  cases hc:cameW s.1 i with
  | true=>simp
  | false =>
   rw [hd,hc] at hA;simp only [Bool.not_false,Bool.and_true,if_true,Bool.true_and] at hA ⊢;have hpre:s.1 <+: s.1++[⟨i,-1,[]⟩]:=List.prefix_append _ _;have ha':AheadW s.1.length (s.1++[⟨i,-1,[]⟩],s.2):=ha.adds (fun q h=>.inl h) hpre (Nat.le_refl _);have hm:(⟨i,-1,[]⟩:WayV)∈T.1:=hA.1.subset ((run_pre _ _ _).subset (by simp));have hr:reachW ns T.1 i=true:=reach_way hm;rw [hr,if_pos rfl];exact run_sim (ns.length - s.1.length) s.1.length _ (ho.snoc (x:=⟨i,-1,[]⟩) hd hc) ha' (by simp) hA
theorem fold_root {ns : List NodV} : ∀ (ff : List Int) (s : StW), OkW ns s.1 → AheadW s.1.length s → OkW ns (ff.foldl (rootW ns) s).1 ∧ AddsW s.1.length s (ff.foldl (rootW ns) s)
 | [],s,ho,_=>⟨ho,AddsW.refl _ _⟩
 | i::r,s,ho,ha=>by
  obtain ⟨h1,h2⟩:=root_adds (i:=i) ho ha;obtain ⟨h3,h4⟩:=fold_root r _ (root_ok ho) h2;exact ⟨h3,h1.trans h4 h1.1.length_le⟩
theorem fold_sim' {ns : List NodV} {T : StW} : ∀ (ff : List Int) (s : StW), OkW ns s.1 → AheadW s.1.length s → AgreeW (ff.foldl (rootW ns) s).1.length T (ff.foldl (rootW ns) s) → ff.foldl (rootW (pruneW ns T)) (s.1, []) = ((ff.foldl (rootW ns) s).1, [])
 | [],_,_,_,_=>rfl
 | i::r,s,ho,ha,hA=>by
  obtain ⟨h1,h2⟩:=root_adds (i:=i) ho ha;obtain ⟨h3,h4⟩:=fold_root r _ (root_ok (i:=i) ho) h2;simp only [List.foldl_cons] at hA ⊢;rw [root_sim ho ha (hA.back h3 h4 h4.1.length_le)];exact fold_sim' r _ (root_ok ho) h2 hA
theorem prune_walk (ns:List NodV) (ff:List Int):walkW (pruneW ns (walkW ns ff)) ff=((walkW ns ff).1,[]) :=
 fold_sim' ff ([],[]) (OkW.nil_ ns) (fun q h=>(by cases h)) ⟨List.prefix_refl _,fun _ _=>Iff.rfl⟩

def ComesW (ns:List NodV) (s:StW):Prop:=∀q∈s.2,∃e,(nodAt ns q.1).ents[q.2]?=some e∧∃y∈s.1,y.ino=e.ino
theorem ComesW.pre {ns:List NodV} {l r:List WayV} {t:List (Int×Nat)} (h:ComesW ns (l,t)) (hp:l <+: r):ComesW ns (r,t):=fun q hq=>by
 obtain ⟨e,h1,y,h2,h3⟩:=h q hq;exact ⟨e,h1,y,hp.subset h2,h3⟩
theorem one_comes {ns:List NodV} {d:Int} {p:Nat} {s:StW} {x:EntV×Nat} (h:ComesW ns s) (hx:(nodAt ns d).ents[x.2]?=some x.1):ComesW ns (oneW d p s x):=by
 unfold oneW
 cases hc:cameW s.1 x.1.ino with
 | true =>
  rw [if_pos rfl];intro q hq
  rcases List.mem_append.1 hq with h1|h1
  ·exact h q h1
  ·rw [List.mem_singleton] at h1
   subst h1;exact ⟨x.1,hx,came_iff.1 hc⟩
 | false=>exact ComesW.pre (l:=s.1) h (List.prefix_append _ _)
theorem visit_comes {ns:List NodV} {p:Nat} {s:StW} (h:ComesW ns s):ComesW ns (visitW ns p s):=by
 unfold visitW
 split
 ·exact h
 ·refine foldl_keep (P:=fun s:StW=>ComesW ns s) _ _ h (fun s x hx hs=>one_comes hs ?_)
  have:=List.mem_zipIdx_iff_getElem?.1 (List.mem_filter.1 hx).1
  exact this
theorem run_comes {ns : List NodV} : ∀ (f p : Nat) (s : StW), ComesW ns s → ComesW ns (runW ns f p s)
 | 0,_,_,h=>h
 | f+1,p,s,h=>by
  unfold runW
  split
  ·exact run_comes f _ _ (visit_comes h)
  ·exact h
theorem walk_comes (ns:List NodV) (ff:List Int):ComesW ns (walkW ns ff):=by
 refine foldl_keep (P:=fun s:StW=>ComesW ns s) _ _ (fun q h=>(by cases h)) (fun s i _ hs=>?_);unfold rootW
 split
 ·exact run_comes _ _ _ (ComesW.pre (l:=s.1) hs (List.prefix_append _ _))
 ·exact hs
theorem keep_mem {t:List (Int×Nat)} {i:Int} {l:List EntV} {k:Nat} {e:EntV} (h:l[k]?=some e) (ht:(i,k)∉t):e∈keepE t i l:=by
 unfold keepE;refine List.mem_map.2 ⟨(e,k),List.mem_filter.2 ⟨List.mem_zipIdx_iff_getElem?.2 h,by simpa using ht⟩,rfl⟩
end Go.Proofs.YtggnbflbbfdohaaGreat

namespace Go.Proofs.YtggnbflbbfdohaaGreat
open Go.RowKit Plain

theorem sum_le {α : Type} {f g : α → Nat} : ∀ {l : List α}, (∀ x ∈ l, f x ≤ g x) → (l.map f).sum ≤ (l.map g).sum
 | [],_=>Nat.le_refl _
 | x::r,h=>by
  simp only [List.map_cons,List.sum_cons];exact Nat.add_le_add (h x List.mem_cons_self) (sum_le fun y hy=>h y (List.mem_cons_of_mem _ hy))
theorem sum_eq {α:Type} {f g:α→Nat} {l:List α} (h:∀x∈l,f x=g x):(l.map f).sum=(l.map g).sum:=Nat.le_antisymm (sum_le fun x hx=>Nat.le_of_eq (h x hx)) (sum_le fun x hx=>Nat.le_of_eq (h x hx).symm)
def kidsW (ns:List NodV) (i:Int):List EntV:=(nodAt ns i).ents.filter (fun e=>isDir ns e.ino)
theorem dirs_kids (ns:List NodV) (l:List EntV):(dirsOf ns l).map (fun x=>x.1)=l.filter (fun e=>isDir ns e.ino):=map_filter_zip (fun e=>isDir ns e.ino) l 0
theorem fold_all (d : Int) (p : Nat) : ∀ (xs : List (EntV × Nat)) (s : StW), (xs.foldl (oneW d p) s).2 = [] → (xs.foldl (oneW d p) s).1 = s.1 ++ xs.map (fun x => ⟨x.1.ino, p, x.1.name⟩)
 | [],s,_=>by simp
 | x::r,s,h=>by
  simp only [List.foldl_cons] at h ⊢;have h1:=fold_all d p r _ h;rw [h1]
  cases hc:cameW s.1 x.1.ino with
  | true =>
   exfalso
   refine one_more d p [] [] r (oneW d p s x) ?_ h;unfold oneW;simp [hc]
  | false =>
   have h2:(oneW d p s x).1=s.1++[⟨x.1.ino,p,x.1.name⟩]:=by unfold oneW;simp [hc]
   rw [h2];simp
theorem fold_nil (d:Int) (p:Nat) (xs:List (EntV×Nat)) (s:StW) (h:(xs.foldl (oneW d p) s).2=[]):s.2=[]:=by
 cases hs:s.2 with
 | nil=>rfl
 | cons a r=>exact absurd h (one_more d p [] [] xs s (by rw [hs];simp))
theorem visit_nil {ns:List NodV} {p:Nat} {s:StW} (h:(visitW ns p s).2=[]):s.2=[]:=by
 unfold visitW at h
 split at h
 ·exact h
 ·exact fold_nil _ _ _ _ h
theorem visit_all {ns:List NodV} {p:Nat} {s:StW} {y:WayV} (hy:s.1[p]?=some y) (h:(visitW ns p s).2=[]):(visitW ns p s).1=s.1++(kidsW ns y.ino).map (fun e=>⟨e.ino,p,e.name⟩):=by
 unfold visitW at h ⊢;rw [hy] at h ⊢;rw [fold_all _ _ _ _ h]
 congr 1
 unfold kidsW;rw [←dirs_kids,List.map_map]
 rfl
theorem run_nil {ns : List NodV} : ∀ (n p : Nat) (s : StW), (runW ns n p s).2 = [] → s.2 = []
 | 0,_,_,h=>h
 | n+1,p,s,h=>by
  unfold runW at h
  split at h
  ·exact visit_nil (run_nil n _ _ h)
  ·exact h
def wgt (ns : List NodV) : Nat → Int → Nat
 | 0,_=>0
 | f+1,i=>1+((kidsW ns i).map (fun e=>wgt ns f e.ino)).sum
theorem wgt_mono (ns : List NodV) : ∀ (f : Nat) (i : Int), wgt ns f i ≤ wgt ns (f + 1) i
 | 0,i=>Nat.zero_le _
 | f+1,i=>by
  unfold wgt;exact Nat.add_le_add_left (sum_le fun e _=>wgt_mono ns f e.ino) 1
theorem wgt_le (ns:List NodV) (f:Nat) (i:Int):wgt ns f i≤1+((kidsW ns i).map (fun e=>wgt ns f e.ino)).sum:=wgt_mono ns f i
theorem run_pot {ns : List NodV} (f : Nat) : ∀ (n p : Nat) (s : StW), p ≤ s.1.length → OkW ns s.1 → ns.length ≤ p + n → (runW ns n p s).2 = [] → p + ((s.1.drop p).map (fun y => wgt ns f y.ino)).sum ≤ (runW ns n p s).1.length
 | 0,p,s,hp,ho,hn,_=>by
  have:=ho.le
  rw [List.drop_eq_nil_of_le (by omega)]
  simpa [runW] using hp
 | n+1,p,s,hp,ho,hn,h=>by
  unfold runW at h ⊢
  by_cases hlt:p < s.1.length
  ·rw [if_pos hlt] at h ⊢
   obtain ⟨y,hy⟩:∃y,s.1[p]?=some y:=⟨_,List.getElem?_eq_getElem hlt⟩;have hv:=visit_all hy (run_nil n _ _ h)
   have hl:p+1≤(visitW ns p s).1.length:=by rw [hv,List.length_append];omega
   have ih:=run_pot f n (p+1) (visitW ns p s) hl (visit_ok ho) (by omega) h
   refine Nat.le_trans ?_ ih;rw [hv,List.drop_append_of_le_length (by omega),List.map_append,List.sum_append]
   have hd:s.1.drop p=y::s.1.drop (p+1):=by
    rw [List.drop_eq_getElem_cons hlt]
    congr 1
    exact (List.getElem?_eq_some_iff.1 hy).2
   rw [hd,List.map_cons,List.sum_cons,List.map_map];have h2:=wgt_le ns f y.ino;have h3:((kidsW ns y.ino).map ((fun y:WayV=>wgt ns f y.ino) ∘ fun e=>(⟨e.ino,p,e.name⟩:WayV))).sum=((kidsW ns y.ino).map (fun e=>wgt ns f e.ino)).sum:=rfl;rw [h3];omega
  ·rw [if_neg hlt]
   rw [List.drop_eq_nil_of_le (by omega)]
   simpa using hp
theorem run_pot_at {ns : List NodV} (f : Nat) : ∀ (n p : Nat) (s : StW), p ≤ s.1.length → OkW ns s.1 → ns.length ≤ p + n → (runW ns n p s).2 = [] → ∀ k y, p ≤ k → (runW ns n p s).1[k]? = some y → wgt ns f y.ino + k ≤ (runW ns n p s).1.length
 | 0,p,s,hp,ho,hn,_,k,y,hk,hy=>by
  have:=ho.le
  have h1:=(List.getElem?_eq_some_iff.1 hy).1;simp only [runW] at h1;omega
 | n+1,p,s,hp,ho,hn,h,k,y,hk,hy=>by
  by_cases hkp:k=p
  ·subst hkp
   have h1:=run_pot f (n+1) k s hp ho hn h
   by_cases hlt:k < s.1.length
   ·have h2:s.1[k]?=some y:=by
     obtain ⟨t,ht⟩:=run_pre (ns:=ns) (n+1) k s;rw [←ht,List.getElem?_append_left hlt] at hy;exact hy
    rw [List.drop_eq_getElem_cons hlt,List.map_cons,List.sum_cons,(List.getElem?_eq_some_iff.1 h2).2] at h1;omega
   ·unfold runW at hy
    rw [if_neg hlt] at hy;exact absurd (List.getElem?_eq_some_iff.1 hy).1 hlt
  ·unfold runW at h hy ⊢
   by_cases hlt:p < s.1.length
   ·rw [if_pos hlt] at h hy ⊢
    obtain ⟨z,hz⟩:∃z,s.1[p]?=some z:=⟨_,List.getElem?_eq_getElem hlt⟩;have hv:=visit_all hz (run_nil n _ _ h);exact run_pot_at f n (p+1) (visitW ns p s) (by rw [hv,List.length_append];omega) (visit_ok ho) (by omega) h k y (by omega) hy
   ·rw [if_neg hlt] at hy
    have:=(List.getElem?_eq_some_iff.1 hy).1
    omega
theorem run_kids {ns : List NodV} : ∀ (n p : Nat) (s : StW), p ≤ s.1.length → OkW ns s.1 → ns.length ≤ p + n → (runW ns n p s).2 = [] → ∀ k y e, p ≤ k → (runW ns n p s).1[k]? = some y → e ∈ kidsW ns y.ino → ∃ j, k < j ∧ (runW ns n p s).1[j]? = some ⟨e.ino, k, e.name⟩
 | 0,p,s,hp,ho,hn,_,k,y,e,hk,hy,_=>by
  have:=ho.le
  have h1:=(List.getElem?_eq_some_iff.1 hy).1;simp only [runW] at h1;omega
 | n+1,p,s,hp,ho,hn,h,k,y,e,hk,hy,he=>by
  unfold runW at h hy ⊢
  by_cases hlt:p < s.1.length
  ·rw [if_pos hlt] at h hy ⊢
   obtain ⟨z,hz⟩:∃z,s.1[p]?=some z:=⟨_,List.getElem?_eq_getElem hlt⟩;have hv:=visit_all hz (run_nil n _ _ h)
   by_cases hkp:k=p
   ·subst hkp
    have hpre:=run_pre (ns:=ns) n (k+1) (visitW ns k s)
    have hzy:z=y:=by
     have h1:(visitW ns k s).1[k]?=some z:=by rw [hv,List.getElem?_append_left hlt];exact hz
     have h2:=pre_get hpre h1;rw [hy] at h2;exact (Option.some.inj h2).symm
    subst hzy;obtain ⟨q,hq,hqe⟩:=List.mem_iff_getElem.1 he;refine ⟨s.1.length+q,by omega,pre_get hpre ?_⟩;rw [hv,List.getElem?_append_right (by omega),Nat.add_sub_cancel_left,List.getElem?_map,List.getElem?_eq_getElem hq,hqe]
    rfl
   ·exact run_kids n (p+1) (visitW ns p s) (by rw [hv,List.length_append];omega) (visit_ok ho) (by omega) h k y e (by omega) hy he
  ·rw [if_neg hlt] at hy
   have:=(List.getElem?_eq_some_iff.1 hy).1
   omega
def TreeL (ns:List NodV):Prop:=(walkW ns [1]).2=[]
def inW (ns:List NodV) (i:Int):Prop:=∃y∈(walkW ns [1]).1,y.ino=i
theorem walk_one (ns:List NodV):walkW ns [1]=rootW ns ([],[]) 1:=rfl
theorem root_run {ns:List NodV} (h:isDir ns 1=true):walkW ns [1]=runW ns ns.length 0 ([⟨1,-1,[]⟩],[]):=by
 rw [walk_one];unfold rootW;rw [if_pos (by simp [h,cameW])]
 rfl
theorem in_dir {ns:List NodV} {i:Int} (h:inW ns i):isDir ns 1=true:=by
 obtain ⟨y,hy,-⟩:=h
 cases hd:isDir ns 1 with
 | true=>rfl
 | false =>
  rw [walk_one] at hy;unfold rootW at hy;rw [hd] at hy;simp at hy
theorem in_root {ns:List NodV} (h:isDir ns 1=true):inW ns 1:=by
 refine ⟨⟨1,-1,[]⟩,?_,rfl⟩;rw [root_run h];exact (run_pre (ns:=ns) ns.length 0 ([⟨1,-1,[]⟩],[])).subset (by simp)
theorem in_isDir {ns:List NodV} {i:Int} (h:inW ns i):isDir ns i=true:=by
 obtain ⟨y,hy,rfl⟩:=h;exact (walk_ok ns [1]).1 y hy
def wt (ns:List NodV) (i:Int):Nat:=wgt ns 24 i
theorem wgt_stable {ns : List NodV} (ht : TreeL ns) : ∀ (m k : Nat) (y : WayV), (walkW ns [1]).1[k]? = some y → (walkW ns [1]).1.length ≤ k + m → wgt ns (m + 1) y.ino = wgt ns m y.ino
 | 0,k,y,hy,hk=>by
  have:=(List.getElem?_eq_some_iff.1 hy).1
  omega
 | m+1,k,y,hy,hk=>by
  have hd:=in_dir ⟨y,List.mem_of_getElem? hy,rfl⟩;unfold wgt
  congr 1
  refine sum_eq fun e he=>?_;have h1:=ht;unfold TreeL at h1;rw [root_run hd] at h1 hy;obtain ⟨j,hj,hje⟩:=run_kids ns.length 0 ([⟨1,-1,[]⟩],[]) (by simp) ((OkW.nil_ ns).snoc (x:=⟨1,-1,[]⟩) hd rfl) (by omega) h1 k y e (Nat.zero_le _) hy he;rw [←root_run hd] at hje;exact wgt_stable ht m j ⟨e.ino,k,e.name⟩ hje (by omega)
theorem tree_wt {ns:List NodV} {i:Int} (ht:TreeL ns) (hl:ns.length≤24) (h:inW ns i):wt ns i=1+((kidsW ns i).map (fun e=>wt ns e.ino)).sum∧wt ns i≤24∧∀e∈kidsW ns i,inW ns e.ino:=by
 have hd:=in_dir h;obtain ⟨y,hy,rfl⟩:=h;obtain ⟨k,hk,hky⟩:=List.mem_iff_getElem.1 hy
 have hyk:(walkW ns [1]).1[k]?=some y:=by rw [List.getElem?_eq_getElem hk,hky]
 have hwl:=(walk_ok ns [1]).le;have h1:=ht;unfold TreeL at h1;have ho:=(OkW.nil_ ns).snoc (x:=⟨1,-1,[]⟩) hd rfl;refine ⟨?_,?_,fun e he=>?_⟩
 ·have:=wgt_stable ht 24 k y hyk (by omega)
  unfold wt;rw [←this]
  rfl
 ·have h2:=hyk
  rw [root_run hd] at h1 h2
  have:=run_pot_at 24 ns.length 0 ([⟨1,-1,[]⟩],[]) (by simp) ho (by omega) h1 k y (Nat.zero_le _) h2
  rw [←root_run hd] at this;unfold wt;omega
 ·have h2:=hyk
  rw [root_run hd] at h1 h2;obtain ⟨j,-,hj⟩:=run_kids ns.length 0 ([⟨1,-1,[]⟩],[]) (by simp) ho (by omega) h1 k y e (Nat.zero_le _) h2 he;rw [←root_run hd] at hj;exact ⟨_,List.mem_of_getElem? hj,rfl⟩
theorem wt_pos {ns:List NodV} (i:Int):1≤wt ns i:=by unfold wt wgt;omega
end Go.Proofs.YtggnbflbbfdohaaGreat

