import Derived.Test.YtpndfahgflgocaaGreatDoorXt2

namespace Go.Proofs.YtpndfahgflgocaaGreatDoor
open Go.RowKit
variable {α β : Type} {E : Enc α}

theorem wp_append_OwE [Tags] {P : Program} (w : World) {o : Oper} {a : Act} {K : Act → World → Prop} {Q : Exit → Act → World → Prop} (s x : Operand) (t : TypeId)
  (ho:o.op=.call {callee:=.builtin .append,args:=#[s,x],argTypes:=#[t,t]})
  (base:Nat) (e:TypeId) (z:Value) (k:Nat) (ht:P.underlying t=some (.slice e)) (hinfo:(P.info? e).map (fun i=>(i.zero,i.size,i.bytes))=some (some z,E.k,k)) (hzs:z.cells.size=E.k) (hk:0 < E.k)
  (A0:Option Addr) (n c0:Nat) (l0:List α) (hs:a.eval s=.slice A0 n c0) (hown:OwE E w base e A0 n c0 l0) (D:Nat→Prop) (A:Option Addr) (m c:Nat) (l1:List α) (hx:a.eval x=.slice A m c) (hb:RdE E w D A m l1) (hD:∀b,D b→But w A0 b)
  (N:Nat) (hN:n+m=N) (hbytes:N*k≤140737488355328) (hnm:N≤140737488355328) (hbase:base≤w.heap.size)
  (h:∀A' c' w',OwE E w' base e A' N c' (l0++l1)→Below base w w'→K (a.put o.dst (.slice A' N c')) w'):o.wp P a w K Q:=by
 subst hN
 obtain ⟨A',c',w',hr,h2,h3⟩:=run_append_OwE (P:=P) w base t o.type e z k ht hinfo hzs hk A0 n c0 l0 hown D A m c l1 hb hD hbytes hnm hbase
 unfold Oper.wp execOp
 simp only [ho,resolve,invoke,builtin,Sem.run_bind,Sem.run_pure,Result.andThen_ok,List.map_toArray,List.map_cons,List.map_nil,hs,hx,hr]
 exact h A' c' w' h2 h3
theorem wpList_append_OwE [Tags] {P : Program} (w : World) {ops : Array Oper} {rest : List Oper} {o : Oper} {a : Act} {Q : Exit → Act → World → Prop} (hgd : o.guard = none) (s x : Operand) (t : TypeId)
  (ho:o.op=.call {callee:=.builtin .append,args:=#[s,x],argTypes:=#[t,t]})
  (base:Nat) (e:TypeId) (z:Value) (k:Nat) (ht:P.underlying t=some (.slice e)) (hinfo:(P.info? e).map (fun i=>(i.zero,i.size,i.bytes))=some (some z,E.k,k)) (hzs:z.cells.size=E.k) (hk:0 < E.k)
  (A0:Option Addr) (n c0:Nat) (l0:List α) (hs:a.eval s=.slice A0 n c0) (hown:OwE E w base e A0 n c0 l0) (D:Nat→Prop) (A:Option Addr) (m c:Nat) (l1:List α) (hx:a.eval x=.slice A m c) (hb:RdE E w D A m l1) (hD:∀b,D b→But w A0 b)
  (N:Nat) (hN:n+m=N) (hbytes:N*k≤140737488355328) (hnm:N≤140737488355328) (hbase:base≤w.heap.size)
  (h:∀A' c' w',OwE E w' base e A' N c' (l0++l1)→Below base w w'→wpList P ops Q rest (a.put o.dst (.slice A' N c')) w'):wpList P ops Q (o::rest) a w :=
 wpList_plain hgd fun _ hK=>wp_append_OwE w s x t ho base e z k ht hinfo hzs hk A0 n c0 l0 hs hown D A m c l1 hx hb hD N hN hbytes hnm hbase (fun A' c' w' h1 h2=>hK _ _ (h A' c' w' h1 h2))

theorem flat_set {css:List (List Value)} (hk:∀cs∈css,cs.length=1) (p:Nat) (u:Value) (hp:p < css.length):css.flatten.set p u=(css.set p [u]).flatten:=by
 induction css generalizing p with
 | nil=>simp at hp
 | cons c r ih =>
  have hc:c.length=1:=hk c List.mem_cons_self
  obtain ⟨x,rfl⟩:∃x,c=[x]:=by match c,hc with|[x],_=>exact ⟨x,rfl⟩
  cases p with
  | zero=>rfl
  | succ p =>
   simp only [List.set_cons_succ,List.flatten_cons,List.singleton_append]
   rw [ih (fun cs h=>hk cs (List.mem_cons_of_mem _ h)) p (by simpa using hp)]
theorem OwE.store [Tags] {w:World} {base e n c g p:Nat} {l:List α} {u:Value} {x:α} {D:Nat→Prop} (h:OwE E w base e (some ⟨g,0,none⟩) n c l) (hk:E.k=1) (hp:p < n) (hR:E.R w D [u] x) (hD:∀b,D b→But w (some ⟨g,0,none⟩) b) :
  OwE E (w.setCell ⟨g,p,none⟩ u) base e (some ⟨g,0,none⟩) n c (l.set p x):=by
 obtain ⟨css,hown,hc,hl⟩:=h
 have hlens:∀cs∈css,cs.length=1:=fun cs hcs=>(hc.lens cs hcs).trans hk
 have hpc:p < css.length:=by rw [hc.1,hl];exact hp
 have hsz:(w.setCell ⟨g,p,none⟩ u).heap.size=w.heap.size:=by simp [World.setCell]
 have hkept:Kept (But w (some ⟨g,0,none⟩)) w (w.setCell ⟨g,p,none⟩ u):=fun b hb=>Below.heap_setCell w ⟨g,p,none⟩ u b (fun e=>hb.2 _ rfl e)
 have hbut:∀b,But w (some ⟨g,0,none⟩) b→But (w.setCell ⟨g,p,none⟩ u) (some ⟨g,0,none⟩) b:=fun b hb=>⟨hb.1.eq (by rw [hsz];exact Nat.le_refl _) (hkept b hb),hb.2⟩
 refine ⟨css.set p [u],?_,⟨by rw [List.length_set,List.length_set];exact hc.1,fun i cs y h1 h2=>?_⟩,by rw [List.length_set];exact hl⟩
 ·rw [←flat_set hlens p u hpc]
  rw [hk] at hown ⊢
  exact (World.ownsRow.stored hown p u).1
 ·by_cases hi:p=i
  ·subst hi
   rw [List.getElem?_set_self hpc] at h1
   rw [List.getElem?_set_self (by rw [hl];exact hp)] at h2
   cases h1
   cases h2
   exact E.mono hR (fun b hb=>hkept b (hD b hb)) (fun b hb=>hbut b (hD b hb))
  ·rw [List.getElem?_set_ne hi] at h1 h2
   exact E.mono (hc.2 i cs y h1 h2) hkept hbut
theorem OwE.at_ [Tags] {w:World} {base e n c:Nat} {A:Option Addr} {l:List α} (h:OwE E w base e A n c l) (hn:0 < n):∃g,A=some ⟨g,0,none⟩∧base≤g∧g < w.heap.size∧∀i,w.frozen? ⟨g,i,none⟩=false:=by
 obtain ⟨css,hown,_,_⟩:=h
 rcases hown.2 with ⟨_,h1⟩|⟨g,cap,cur,h1,h2,h3,h4⟩
 ·omega
 ·cases h1
  refine ⟨_,rfl,h2,?_,fun i=>frozen_of_row w _ i _ e h3⟩
  rcases Nat.lt_or_ge g w.heap.size with hlt|hge
  ·exact hlt
  ·rw [Array.getElem?_eq_none hge] at h3;cases h3

theorem RdE.get_list {F:Enc β} {w:World} {D:Nat→Prop} {A:Option Addr} {n:Nat} {l:List (List β)} (h:RdE (Enc.list F) w D A n l) {i:Nat} {x:List β} (hx:l[i]?=some x) :
  ∃b o,A=some ⟨b,o,none⟩∧D b∧∃A1 n1 c1,w.cell? ⟨b,o+i,none⟩=some (.slice A1 n1 c1)∧n1≤c1∧RdE F w D A1 n1 x:=by
 have hi:=(List.getElem?_eq_some_iff.1 hx).1
 obtain ⟨b,o,e,hb,hc⟩:=h.2 (by have:=h.1;omega)
 obtain ⟨cs,⟨A1,n1,c1,hcs,hle,hr⟩,hcell⟩:=hc i x hx
 refine ⟨b,o,e,hb,A1,n1,c1,?_,hle,hr⟩
 have:=hcell 0 (.slice A1 n1 c1) (by rw [hcs];rfl)
 rwa [show i*(Enc.list F).k+0=i from by show i*1+0=i;omega] at this
end Go.Proofs.YtpndfahgflgocaaGreatDoor

namespace Go.Proofs.YtpndfahgflgocaaGreatDoor
open Go.RowKit Plain

structure EntV where
 (slot ino:Int)
 name:List UInt8
 deriving DecidableEq
def ent0:EntV:=⟨0,0,[]⟩
def entEn:Enc EntV:=(Enc.pair Enc.int (Enc.pair Enc.int Enc.text)).as (fun x=>(x.slot,x.ino,x.name))
theorem ent_cells {w:World} {D:Nat→Prop} {cs:List Value} {x:EntV} (h:entEn.R w D cs x):cs=[.int .i64 x.slot,.int .i64 x.ino,.string ⟨x.name.toArray⟩]:=by
 obtain ⟨c1,c2,rfl,h1,c3,c4,rfl,h2,h3⟩:=h
 have e1:c1=[.int .i64 x.slot]:=h1
 have e2:c3=[.int .i64 x.ino]:=h2
 have e3:c4=[.string ⟨x.name.toArray⟩]:=h3
 rw [e1,e2,e3]
 rfl
theorem ent_get {w:World} {D:Nat→Prop} {A:Option Addr} {n k:Nat} {l:List EntV} {x:EntV} (h:RdE entEn w D A n l) (hx:l[k]?=some x) :
  ∃b o,A=some ⟨b,o,none⟩∧D b∧∀j v,[Value.int .i64 x.slot,.int .i64 x.ino,.string ⟨x.name.toArray⟩][j]?=some v→w.cell? ⟨b,o+k*3+j,none⟩=some v:=by
 have hk:=(List.getElem?_eq_some_iff.1 hx).1
 obtain ⟨b,o,e,hb,hc⟩:=h.2 (by rw [←h.1];omega)
 obtain ⟨cs,hR,hcs⟩:=hc k x hx
 have e2:=ent_cells hR
 subst e2
 refine ⟨b,o,e,hb,fun j v hv=>?_⟩
 have:=hcs j v hv
 rw [Nat.add_assoc]
 exact this
def cellsE (x:EntV):List Value:=[.int .i64 x.slot,.int .i64 x.ino,.string ⟨x.name.toArray⟩]
def flatE (l:List EntV):List Value:=l.flatMap cellsE
end Go.Proofs.YtpndfahgflgocaaGreatDoor

namespace Go.Proofs.YtpndfahgflgocaaGreatDoor
open Go.RowKit Plain

structure AttV where
 (h o:Int)
 r:List UInt8
 (l i g s:Int)
 deriving DecidableEq
def att0:AttV:=⟨0,0,[],0,0,0,0⟩
end Go.Proofs.YtpndfahgflgocaaGreatDoor

namespace Go.Proofs.YtpndfahgflgocaaGreatDoor
open Go.RowKit Plain

structure NodV where
 (k p n g:Int)
 data:List UInt8
 ents:List EntV
 att:AttV
 deriving DecidableEq
def nod0:NodV:=⟨0,0,0,0,[],[],att0⟩
def nodAt (ns:List NodV) (i:Int):NodV:=if 1≤i∧i≤(ns.length:Int) then (ns[(i - 1).toNat]?).getD nod0 else nod0
def isDir (ns:List NodV) (i:Int):Bool:=decide ((nodAt ns i).k=1)
structure WayV where
 (ino up:Int)
 name:List UInt8
 deriving DecidableEq
abbrev StW:=List WayV×List (Int×Nat)
def cameW (l:List WayV) (i:Int):Bool:=l.any (fun x=>x.ino==i)
def oneW (dir:Int) (p:Nat) (s:StW) (x:EntV×Nat):StW :=
 if cameW s.1 x.1.ino then (s.1,s.2++[(dir,x.2)]) else (s.1++[⟨x.1.ino,p,x.1.name⟩],s.2)
def dirsOf (ns:List NodV) (l:List EntV):List (EntV×Nat):=l.zipIdx.filter (fun x=>isDir ns x.1.ino)
def visitW (ns:List NodV) (p:Nat) (s:StW):StW:=match s.1[p]? with
 | none=>s
 | some y=>(dirsOf ns (nodAt ns y.ino).ents).foldl (oneW y.ino p) s
def runW (ns : List NodV) : Nat → Nat → StW → StW
 | 0,_,s=>s
 | f+1,p,s=>if p < s.1.length then runW ns f (p+1) (visitW ns p s) else s
def rootW (ns:List NodV) (s:StW) (i:Int):StW:=if isDir ns i&&!cameW s.1 i then runW ns (ns.length - s.1.length) s.1.length (s.1++[⟨i,-1,[]⟩],s.2) else s
def walkW (ns:List NodV) (ff:List Int):StW:=ff.foldl (rootW ns) ([],[])

theorem isDir_in {ns:List NodV} {i:Int} (h:isDir ns i=true):1≤i∧i≤(ns.length:Int):=by
 unfold isDir nodAt at h
 split at h
 ·assumption
 ·simp [nod0] at h
theorem came_iff {l:List WayV} {i:Int}:cameW l i=true↔∃x∈l,x.ino=i:=by simp [cameW]
theorem came_not {l:List WayV} {i:Int} (h:cameW l i=false):∀x∈l,x.ino≠i:=by
 intro x hx e
 have:=(came_iff (l:=l) (i:=i)).2 ⟨x,hx,e⟩
 rw [h] at this
 cases this

def OkW (ns:List NodV) (l:List WayV):Prop:=(∀x∈l,isDir ns x.ino=true)∧(l.map WayV.ino).Nodup
theorem OkW.nil_ (ns:List NodV):OkW ns []:=⟨fun _ h=>(by cases h),List.nodup_nil⟩
theorem OkW.snoc {ns:List NodV} {l:List WayV} {x:WayV} (h:OkW ns l) (hd:isDir ns x.ino=true) (hc:cameW l x.ino=false):OkW ns (l++[x]):=by
 refine ⟨fun y hy=>?_,?_⟩
 ·rcases List.mem_append.1 hy with h1|h1
  ·exact h.1 y h1
  ·rw [List.mem_singleton] at h1;rw [h1];exact hd
 ·rw [List.map_append,List.nodup_append]
  refine ⟨h.2,by simp,?_⟩
  intro a ha b hb e
  simp at hb
  subst hb
  obtain ⟨y,hy,rfl⟩:=List.mem_map.1 ha
  exact came_not hc y hy e
theorem nodup_le:∀(n:Nat) (l:List Int),l.Nodup→(∀x∈l,1≤x∧x≤(n:Int))→l.length≤n:=by
 intro n
 induction n with
 | zero =>
  intro l _ h
  cases l with
  | nil=>exact Nat.le_refl _
  | cons x r=>have:=h x List.mem_cons_self;omega
 | succ n ih =>
  intro l hn h
  have h1:(l.erase ((n:Int)+1)).length≤n:=by
   refine ih _ (hn.erase _) fun x hx=>?_
   have h2:=(List.Nodup.mem_erase_iff hn).1 hx
   have h3:=h x h2.2
   have:=h2.1
   omega
  have h2:l.length≤(l.erase ((n:Int)+1)).length+1:=by
   rw [List.length_erase]
   split <;> omega
  omega
theorem OkW.le {ns:List NodV} {l:List WayV} (h:OkW ns l):l.length≤ns.length:=by
 have:=nodup_le ns.length (l.map WayV.ino) h.2 (fun x hx=>by
  obtain ⟨y,hy,rfl⟩:=List.mem_map.1 hx
  exact isDir_in (h.1 y hy))
 simpa using this
theorem OkW.lt {ns:List NodV} {l:List WayV} {i:Int} (h:OkW ns l) (hd:isDir ns i=true) (hc:cameW l i=false):l.length < ns.length:=by
 have:=(h.snoc (x:=⟨i,0,[]⟩) hd hc).le
 simp at this
 omega
theorem dirsOf_dir {ns:List NodV} {l:List EntV}:∀x∈dirsOf ns l,isDir ns x.1.ino=true:=fun _ hx=>(List.mem_filter.1 hx).2

theorem foldl_keep {α β:Type} {f:β→α→β} {P:β→Prop} (l:List α) (s:β) (hs:P s) (h:∀s x,x∈l→P s→P (f s x)):P (l.foldl f s):=by
 induction l generalizing s with
 | nil=>exact hs
 | cons x r ih=>exact ih _ (h s x List.mem_cons_self hs) (fun s y hy=>h s y (List.mem_cons_of_mem _ hy))
theorem one_ok {ns:List NodV} {dir:Int} {p:Nat} {s:StW} {x:EntV×Nat} (h:OkW ns s.1) (hd:isDir ns x.1.ino=true):OkW ns (oneW dir p s x).1:=by
 unfold oneW
 cases hc:cameW s.1 x.1.ino with
 | true=>simpa using h
 | false=>simpa using h.snoc (x:=⟨x.1.ino,p,x.1.name⟩) hd hc
theorem one_pre {dir:Int} {p:Nat} {s:StW} {x:EntV×Nat}:s.1 <+: (oneW dir p s x).1:=by
 unfold oneW
 split
 ·exact List.prefix_refl _
 ·exact List.prefix_append _ _
theorem visit_ok {ns:List NodV} {p:Nat} {s:StW} (h:OkW ns s.1):OkW ns (visitW ns p s).1:=by
 unfold visitW
 split
 ·exact h
 ·exact foldl_keep (P:=fun s:StW=>OkW ns s.1) _ _ h (fun _ x hx hs=>one_ok hs (dirsOf_dir x hx))
theorem visit_pre {ns:List NodV} {p:Nat} {s:StW}:s.1 <+: (visitW ns p s).1:=by
 unfold visitW
 split
 ·exact List.prefix_refl _
 ·exact foldl_keep (P:=fun t:StW=>s.1 <+: t.1) _ _ (List.prefix_refl _) (fun _ _ _ hs=>hs.trans one_pre)
theorem run_ok {ns : List NodV} : ∀ (f p : Nat) (s : StW), OkW ns s.1 → OkW ns (runW ns f p s).1
 | 0,_,_,h=>h
 | f+1,p,s,h=>by
  unfold runW
  split
  ·exact run_ok f _ _ (visit_ok h)
  ·exact h
theorem root_ok {ns:List NodV} {s:StW} {i:Int} (h:OkW ns s.1):OkW ns (rootW ns s i).1:=by
 unfold rootW
 split
 ·rename_i hc
  rw [Bool.and_eq_true,Bool.not_eq_true'] at hc
  exact run_ok _ _ _ (h.snoc (x:=⟨i,-1,[]⟩) hc.1 hc.2)
 ·exact h
theorem walk_ok (ns:List NodV) (ff:List Int):OkW ns (walkW ns ff).1:=foldl_keep (P:=fun s:StW=>OkW ns s.1) _ _ (OkW.nil_ ns) (fun _ _ _ hs=>root_ok hs)
theorem walk_snoc (ns:List NodV) (ff:List Int) (i:Int):walkW ns (ff++[i])=rootW ns (walkW ns ff) i:=by simp [walkW]

theorem one_tw {dir:Int} {p:Nat} {s:StW} {x:EntV×Nat}:(oneW dir p s x).2.length≤s.2.length+1:=by
 unfold oneW
 split <;> simp
theorem fold_tw (dir : Int) (p : Nat) : ∀ (l : List (EntV × Nat)) (s : StW), (l.foldl (oneW dir p) s).2.length ≤ s.2.length + l.length
 | [],s=>by simp
 | x::r,s=>by
  have h1:=fold_tw dir p r (oneW dir p s x)
  have h2:=one_tw (dir:=dir) (p:=p) (s:=s) (x:=x)
  simp only [List.foldl_cons,List.length_cons]
  omega
def Many (ns:List NodV):Prop:=ns.length≤24∧∀x∈ns,x.ents.length≤16
theorem nodAt_ents {ns:List NodV} (h:Many ns) (i:Int):(nodAt ns i).ents.length≤16:=by
 unfold nodAt
 split
 ·cases hx:ns[(i - 1).toNat]? with
  | none=>simp [nod0]
  | some x=>simpa using h.2 x (List.mem_of_getElem? hx)
 ·simp [nod0]
theorem dirsOf_len (ns:List NodV) (l:List EntV):(dirsOf ns l).length≤l.length:=by
 unfold dirsOf
 exact Nat.le_trans (List.length_filter_le _ _) (by simp)
theorem visit_tw {ns:List NodV} (h:Many ns) (p:Nat) (s:StW):(visitW ns p s).2.length≤s.2.length+16:=by
 unfold visitW
 split
 ·omega
 ·rename_i y _
  have h1:=fold_tw y.ino p (dirsOf ns (nodAt ns y.ino).ents) s
  have h2:=dirsOf_len ns (nodAt ns y.ino).ents
  have h3:=nodAt_ents h y.ino
  omega
end Go.Proofs.YtpndfahgflgocaaGreatDoor

namespace Go.Proofs.YtpndfahgflgocaaGreatDoor
open Go.RowKit

section
variable {P : Program} {T k : Nat}
theorem run_loadAt_row (hag:∀w,(isAgg T).run P w=.ok true w) (hsz:∀w,(sizeOf T).run P w=.ok k w) {w:World} {g t off:Nat} {cur cs:List Value} (h:RowL w g t cur) (hc:(cur.drop off).take k=cs) (hk:cs.length=k) :
  (Instr.loadAt T (.pointer (some ⟨g,off,none⟩))).run P w=.ok (.agg cs.toArray) w:=by
 have hl:=run_loadCells_list (P:=P) w ⟨g,off,none⟩ cs (fun j v hv=>by
  have hj:j < cs.length:=(List.getElem?_eq_some_iff.1 hv).1
  rw [Addr.add_lit,h.cell,←hv,←hc,List.getElem?_take_of_lt (by omega),List.getElem?_drop])
 rw [hk] at hl
 simp [Instr.loadAt,Instr.sureAddr,loadVar,hag,hsz,hl]
theorem run_storeAt_row (hsz:∀w,(sizeOf T).run P w=.ok k w) {w:World} {g t off:Nat} {cur cs:List Value} (h:RowL w g t cur) (hk:cs.length=k) (hfit:off+k≤cur.length) (h1:∀v∈cs,v.oneCell'=true) :
  (Instr.storeAt T (.pointer (some ⟨g,off,none⟩)) (.agg cs.toArray)).run P w=.ok () (w.setRow g (splice cur off cs).toArray):=by
 have hst:=run_storeCells_at P g off t cs 0 cur.toArray w h (by simp;omega) h1
 simp only [Nat.add_zero] at hst
 simp [Instr.storeAt,Instr.sureAddr,storeVar,hsz,Value.cells,hk,hst,splice]
theorem RowL.setRow_ {w:World} {g t:Nat} {cur:List Value} (h:RowL w g t cur) (new:List Value):RowL (w.setRow g new.toArray) g t new:=setRow_heap w g cur.toArray new.toArray t (0,0) h
theorem grownBy_setRow (w:World) (g:Nat) (new:Array Value):w.grownBy (w.setRow g new) (some g):=⟨rfl,rfl,rfl,by simp,fun j _ hj=>setRow_other w g j new (fun e=>hj (by rw [e]))⟩

theorem wpList_loadC {w : World} {ops : Array Oper} {rest : List Oper} {o : Oper} {a : Act} {Q : Exit → Act → World → Prop} (hgd : o.guard = none) (T : Nat) (x : Operand) (ho : o.op = .load T x)
  (k:Nat) (hag:∀w,(isAgg T).run P w=.ok true w) (hsz:∀w,(sizeOf T).run P w=.ok k w) (g off t:Nat) (hx:a.eval x=.pointer (some ⟨g,off,none⟩)) (cur cs:List Value) (h:RowL w g t cur) (hc:(cur.drop off).take k=cs) (hk:cs.length=k)
  (hK:wpList P ops Q rest (a.put o.dst (.agg cs.toArray)) w):wpList P ops Q (o::rest) a w:=by
 refine wpList_plain hgd fun K hK'=>?_
 have hr:=run_loadAt_row (P:=P) hag hsz h hc hk
 unfold Oper.wp execOp
 simp only [ho,Sem.run_bind,Sem.run_pure,Result.andThen_ok,hx,hr]
 exact hK' _ _ hK
theorem run_loadAt_cells (hag:∀w,(isAgg T).run P w=.ok true w) (hsz:∀w,(sizeOf T).run P w=.ok k w) {w:World} {g off:Nat} {cs:List Value} (h:∀j v,cs[j]?=some v→w.cell? ⟨g,off+j,none⟩=some v) (hk:cs.length=k) :
  (Instr.loadAt T (.pointer (some ⟨g,off,none⟩))).run P w=.ok (.agg cs.toArray) w:=by
 have hl:=run_loadCells_list (P:=P) w ⟨g,off,none⟩ cs (fun j v hv=>by rw [Addr.add_lit];exact h j v hv)
 rw [hk] at hl
 simp [Instr.loadAt,Instr.sureAddr,loadVar,hag,hsz,hl]
theorem wpList_loadX {w : World} {ops : Array Oper} {rest : List Oper} {o : Oper} {a : Act} {Q : Exit → Act → World → Prop} (hgd : o.guard = none) (T : Nat) (x : Operand) (ho : o.op = .load T x)
  (k:Nat) (hag:∀w,(isAgg T).run P w=.ok true w) (hsz:∀w,(sizeOf T).run P w=.ok k w) (g off:Nat) (hx:a.eval x=.pointer (some ⟨g,off,none⟩)) (cs:List Value) (h:∀j v,cs[j]?=some v→w.cell? ⟨g,off+j,none⟩=some v) (hk:cs.length=k)
  (hK:wpList P ops Q rest (a.put o.dst (.agg cs.toArray)) w):wpList P ops Q (o::rest) a w:=by
 refine wpList_plain hgd fun K hK'=>?_
 have hr:=run_loadAt_cells (P:=P) hag hsz h hk
 unfold Oper.wp execOp
 simp only [ho,Sem.run_bind,Sem.run_pure,Result.andThen_ok,hx,hr]
 exact hK' _ _ hK
theorem wp_storeC {w : World} {o : Oper} {a : Act} {K : Act → World → Prop} {Q : Exit → Act → World → Prop} (T : Nat) (x y : Operand) (ho : o.op = .store T x y)
  (k:Nat) (hsz:∀w,(sizeOf T).run P w=.ok k w) (g off t:Nat) (hx:a.eval x=.pointer (some ⟨g,off,none⟩)) (cur cs:List Value) (hy:a.eval y=.agg cs.toArray) (h:RowL w g t cur) (hk:cs.length=k) (hfit:off+k≤cur.length) (h1:∀v∈cs,v.oneCell'=true)
  (hK:∀w',RowL w' g t (splice cur off cs)→w.grownBy w' (some g)→w'.heap.size=w.heap.size→K (a.put o.dst undef) w'):o.wp P a w K Q:=by
 have hr:=run_storeAt_row (P:=P) hsz h hk hfit h1
 unfold Oper.wp execOp
 simp only [ho,Sem.run_bind,Sem.run_pure,Result.andThen_ok,hx,hy,hr]
 exact hK _ (h.setRow_ _) (grownBy_setRow _ _ _) (by simp)
theorem wpList_storeC {w : World} {ops : Array Oper} {rest : List Oper} {o : Oper} {a : Act} {Q : Exit → Act → World → Prop} (hgd : o.guard = none) (T : Nat) (x y : Operand) (ho : o.op = .store T x y)
  (k:Nat) (hsz:∀w,(sizeOf T).run P w=.ok k w) (g off t:Nat) (hx:a.eval x=.pointer (some ⟨g,off,none⟩)) (cur cs:List Value) (hy:a.eval y=.agg cs.toArray) (h:RowL w g t cur) (hk:cs.length=k) (hfit:off+k≤cur.length) (h1:∀v∈cs,v.oneCell'=true)
  (hK:∀w',RowL w' g t (splice cur off cs)→w.grownBy w' (some g)→w'.heap.size=w.heap.size→wpList P ops Q rest (a.put o.dst undef) w'):wpList P ops Q (o::rest) a w:=by
 refine wpList_plain hgd fun K hK'=>?_
 exact wp_storeC T x y ho k hsz g off t hx cur cs hy h hk hfit h1 fun w' h1 h2 h3=>hK' _ _ (hK w' h1 h2 h3)
end
end Go.Proofs.YtpndfahgflgocaaGreatDoor

namespace Go.Proofs.YtpndfahgflgocaaGreatDoor
open Go.RowKit Plain

section
variable {w w' : World} {g t : Nat} {cs : List Value}
theorem RowL.on (h:RowL w g t cs) (hb:Below w.heap.size w w'):RowL w' g t cs:=(hb.block g h.lt).trans h
theorem RowL.drew (h:RowL w g t cs):RowL w.drew g t cs:=h
theorem grown_cell (w:World) (g i:Nat) (u:Value):w.grownBy (w.setCell ⟨g,i,none⟩ u) (some g):=⟨rfl,rfl,rfl,by simp,fun k _ hk=>Below.heap_setCell _ _ _ _ (fun e=>hk (by rw [e]))⟩
theorem RowL.src {off m:Nat} {l:List Value} (h:RowL w g t cs) (hc:(cs.drop off).take m=l) (hm:l.length=m):∀j v,l[j]?=some v→w.cell? ((⟨g,off,none⟩:Addr).add j)=some v:=by
 intro j v hv
 have hj:j < l.length:=(List.getElem?_eq_some_iff.1 hv).1
 rw [Addr.add_lit,h.cell,←hv,←hc,List.getElem?_take_of_lt (by omega),List.getElem?_drop]
theorem below_drew (h:Below w.heap.size w w'):Below w.heap.size w w'.drew:=⟨h.os,h.tape,h.output,h.size,h.block⟩
end
section
variable {P : Program} {T k : Nat}
theorem run_loadRow {w:World} {g t:Nat} {cs:List Value} (h:RowL w g t cs) (hk:cs.length=k):(loadCellsFrom ⟨g,0,none⟩ 0 k #[]).run P w=.ok cs.toArray w:=by
 have hl:=run_loadCells_list (P:=P) w ⟨g,0,none⟩ cs (fun j v hv=>by rw [Addr.add_lit,h.cell,Nat.zero_add,hv])
 rw [hk] at hl
 exact hl
theorem wpList_loadW {w : World} {ops : Array Oper} {rest : List Oper} {o : Oper} {a : Act} {Q : Exit → Act → World → Prop} (hgd : o.guard = none) (T : Nat) (x : Operand) (ho : o.op = .load T x)
  (k:Nat) (hag:∀w,(isAgg T).run P w=.ok true w) (hsz:∀w,(sizeOf T).run P w=.ok k w) (g t:Nat) (hx:a.eval x=.pointer (some ⟨g,0,none⟩)) (cs:List Value) (h:RowL w g t cs) (hk:cs.length=k)
  (hK:wpList P ops Q rest (a.put o.dst (.agg cs.toArray)) w):wpList P ops Q (o::rest) a w :=
 wpList_loadC hgd T x ho k hag hsz g 0 t hx cs cs h (by rw [List.drop_zero,List.take_of_length_le (by omega)]) hk hK
theorem wpList_storeW {w : World} {ops : Array Oper} {rest : List Oper} {o : Oper} {a : Act} {Q : Exit → Act → World → Prop} (hgd : o.guard = none) (T : Nat) (x y : Operand) (ho : o.op = .store T x y)
  (k:Nat) (hsz:∀w,(sizeOf T).run P w=.ok k w) (g t:Nat) (hx:a.eval x=.pointer (some ⟨g,0,none⟩)) (cur cs:List Value) (hy:a.eval y=.agg cs.toArray) (h:RowL w g t cur) (hk:cs.length=k) (hcur:cur.length=k) (h1:∀v∈cs,v.oneCell'=true)
  (hK:∀w',RowL w' g t cs→w.grownBy w' (some g)→w'.heap.size=w.heap.size→wpList P ops Q rest (a.put o.dst undef) w'):wpList P ops Q (o::rest) a w :=
 wpList_storeC hgd T x y ho k hsz g 0 t hx cur cs hy h hk (by omega) h1 fun w' h1 h2 h3=>hK w' (by
  have e:splice cur 0 cs=cs:=by unfold splice;rw [List.take_zero,List.nil_append,List.drop_of_length_le (by omega),List.append_nil]
  rw [e] at h1;exact h1) h2 h3
theorem res_cell {fn : Func} {tmps : Array Value} {w : World} {s g t : Nat} {cs : List Value} (hr : fn.results = #[.cell s T]) (ht : tmps.getD s undef = .pointer (some ⟨g, 0, none⟩)) (hag : ∀ w, (isAgg T).run P w = .ok true w) (hsz : ∀ w, (sizeOf T).run P w = .ok k w)
  (h:RowL w g t cs) (hk:cs.length=k):(results fn tmps).run P w=.ok (.agg cs.toArray) w:=by
 have hl:=run_loadRow (P:=P) h hk
 have ht':tmps[s]?.getD undef=.pointer (some ⟨g,0,none⟩):=by simpa using ht
 simp [results,hr,ht',hag,hsz,hl,go_sem]
end
theorem rows1 (w:World) (c1:List Value) (t1:Nat):RowL (w.alloc (.cells c1.toArray t1)) w.heap.size t1 c1∧Below w.heap.size w (w.alloc (.cells c1.toArray t1))∧(w.alloc (.cells c1.toArray t1)).heap.size=w.heap.size+1 :=
 ⟨RowL.new w t1 c1,below_new (below_self w) _,by simp⟩
theorem rows2 (w:World) (c1 c2:List Value) (t1 t2:Nat):RowL ((w.alloc (.cells c1.toArray t1)).alloc (.cells c2.toArray t2)) w.heap.size t1 c1∧RowL ((w.alloc (.cells c1.toArray t1)).alloc (.cells c2.toArray t2)) (w.heap.size+1) t2 c2 ∧
  Below w.heap.size w ((w.alloc (.cells c1.toArray t1)).alloc (.cells c2.toArray t2))∧((w.alloc (.cells c1.toArray t1)).alloc (.cells c2.toArray t2)).heap.size=w.heap.size+2:=by
 obtain ⟨h1,h2,h3⟩:=rows1 w c1 t1
 obtain ⟨k1,k2,k3⟩:=rows1 (w.alloc (.cells c1.toArray t1)) c2 t2
 rw [h3] at k1
 exact ⟨h1.on k2,k1,below_step h2 k2,by rw [k3,h3]⟩
theorem rows3 (w:World) (c1 c2 c3:List Value) (t1 t2 t3:Nat):RowL (((w.alloc (.cells c1.toArray t1)).alloc (.cells c2.toArray t2)).alloc (.cells c3.toArray t3)) w.heap.size t1 c1∧RowL (((w.alloc (.cells c1.toArray t1)).alloc (.cells c2.toArray t2)).alloc (.cells c3.toArray t3)) (w.heap.size+1) t2 c2 ∧
  RowL (((w.alloc (.cells c1.toArray t1)).alloc (.cells c2.toArray t2)).alloc (.cells c3.toArray t3)) (w.heap.size+1+1) t3 c3 ∧
  Below w.heap.size w (((w.alloc (.cells c1.toArray t1)).alloc (.cells c2.toArray t2)).alloc (.cells c3.toArray t3))∧(((w.alloc (.cells c1.toArray t1)).alloc (.cells c2.toArray t2)).alloc (.cells c3.toArray t3)).heap.size=w.heap.size+3:=by
 obtain ⟨h1,h2,h3,h4⟩:=rows2 w c1 c2 t1 t2
 obtain ⟨k1,k2,k3⟩:=rows1 ((w.alloc (.cells c1.toArray t1)).alloc (.cells c2.toArray t2)) c3 t3
 rw [h4] at k1
 exact ⟨h1.on k2,h2.on k2,k1,below_step h3 k2,by rw [k3,h4]⟩
end Go.Proofs.YtpndfahgflgocaaGreatDoor

