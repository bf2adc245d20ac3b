import Derived.Test.YtmhiohnkjpglfaaGreatWs5
import Derived.Test.YtmhiohnkjpglfaaGreatRows

namespace Go.Proofs.YtmhiohnkjpglfaaGreat
open Go.RowKit Go.Shelf Plain

theorem run_clear_ent (w:World) (g off n c tt:Nat) (cur:List Value) (hn:0 < n) (hr:RowL w g tt cur) (hfit:off+n*3≤cur.length) :
  ∃Z:List Value,Z.length=n*3∧∀ty,(Builtin.clear_ #[61] ty #[.slice (some ⟨g,off,none⟩) n c]).run Tryz.prog w=.ok (.tuple #[]) (w.setRow g (splice cur off Z).toArray):=by
 have hz:∀w,(zeroValue 75).run Tryz.prog w=.ok zent w:=fun w=>by kernel_rfl
 obtain ⟨Z,hZ⟩:∃Z,(Builtin.zeroCells zent.cells n).toList=Z:=⟨_,rfl⟩
 have hl:Z.length=n*3:=by
  rw [←hZ,show zent.cells=#[.int .i64 0,.int .i64 0,.string ⟨#[]⟩] from rfl]
  simp [Builtin.zeroCells]
 have h1:∀v∈Z,v.oneCell'=true:=by
  rw [←hZ,show zent.cells=#[.int .i64 0,.int .i64 0,.string ⟨#[]⟩] from rfl]
  intro v hv
  simp only [Builtin.zeroCells,Array.mem_toList_iff,Array.mem_map] at hv
  obtain ⟨i,_,rfl⟩:=hv
  have hi:i % 3 < 3:=Nat.mod_lt _ (by omega)
  show (#[Value.int .i64 0,.int .i64 0,.string ⟨#[]⟩][i % 3]!).oneCell'=true
  generalize i % 3=m at hi
  have:m=0∨m=1∨m=2:=by omega
  rcases this with rfl|rfl|rfl <;> rfl
 have hst:=run_storeCells_at Tryz.prog g off tt Z 0 cur.toArray w hr (by simp;omega) h1
 simp only [Nat.add_zero] at hst
 refine ⟨Z,hl,fun ty=>?_⟩
 obtain ⟨m,rfl⟩:∃m,n=m+1:=⟨n - 1,by omega⟩
 simp [Builtin.clear_,run_underlying Tryz.underlying61,hz,hZ,hst,splice]
theorem flatE_take (l:List EntV) (a:Nat):(flatE l).take (a*3)=flatE (l.take a):=by
 induction l generalizing a with
 | nil=>simp [flatE]
 | cons x r ih =>
  cases a with
  | zero=>simp [flatE]
  | succ a =>
   have e:flatE (x::r)=cellsE x++flatE r:=rfl
   have e2:flatE ((x::r).take (a+1))=cellsE x++flatE (r.take a):=rfl
   rw [e,e2,List.take_append,List.take_of_length_le (by show 3≤_;omega),show (a+1)*3 - (cellsE x).length=a*3 from by show (a+1)*3 - 3=_;omega,ih]
theorem set_flat {cur:List Value} {M:List EntV} {a:Nat} (x:EntV) (h:cur.take (M.length*3)=flatE M) (hc:M.length*3≤cur.length) (ha:a < M.length):(splice cur (a*3) (cellsE x)).take (M.length*3)=flatE (M.set a x):=by
 have h3:(cellsE x).length=3:=rfl
 apply List.ext_getElem?
 intro i
 by_cases hi:i < M.length*3
 ·rw [List.getElem?_take_of_lt hi,splice_get _ _ _ _ (by omega)]
  have e:i=i / 3*3+i % 3:=by omega
  have hM:i / 3 < M.length:=by omega
  have hf:(flatE (M.set a x))[i]?=(cellsE ((M.set a x)[i / 3]'(by rw [List.length_set];omega)))[i % 3]?:=by
   conv=>lhs;rw [e]
   exact flatE_get (List.getElem?_eq_getElem (by rw [List.length_set];omega)) (by omega)
  have hg:cur[i]?=(cellsE M[i / 3])[i % 3]?:=by
   rw [←List.getElem?_take_of_lt hi,h]
   conv=>lhs;rw [e]
   exact flatE_get (List.getElem?_eq_getElem hM) (by omega)
  rw [hf,List.getElem_set,hg]
  by_cases hia:a=i / 3
  ·rw [if_neg (by omega),if_pos (by omega),if_pos hia]
   congr 1
   omega
  ·rw [if_neg hia]
   split
   ·rfl
   ·rw [if_neg (by omega)]
 ·rw [List.getElem?_eq_none (by rw [List.length_take];omega),List.getElem?_eq_none (by rw [flatE_len,List.length_set];omega)]
theorem grown_on {a w w':World} {row:Option Nat} (h:a.grownBy w row) (hb:Below w.heap.size w w'):a.grownBy w' row:=⟨hb.os.trans h.os,hb.tape.trans h.tape,hb.output.trans h.output,Nat.le_trans h.size hb.size,fun j hj hne=>(hb.block j (Nat.lt_of_lt_of_le hj h.size)).trans (h.block j hj hne)⟩
theorem grown_t {a w w':World} {row:Option Nat} (h:a.grownBy w row) (k:w.grownBy w' row):a.grownBy w' row:=⟨k.os.trans h.os,k.tape.trans h.tape,k.output.trans h.output,Nat.le_trans h.size k.size,fun j hj hne=>(k.block j (Nat.lt_of_lt_of_le hj h.size) hne).trans (h.block j hj hne)⟩
def DelAt (l:List EntV) (s:Int) (n cap g a b:Nat) (w:World):Prop:=∃(M:List EntV) (cur:List Value),RowL w g 75 cur∧cur.length=cap*3∧cur.take (n*3)=flatE M∧M.length=n∧M.take a=(l.take b).filter (fun x=>!(x.slot==s))∧M.drop b=l.drop b
theorem DelAt.on {l:List EntV} {s:Int} {n cap g a b:Nat} {w w':World} (h:DelAt l s n cap g a b w) (hb:Below w.heap.size w w'):DelAt l s n cap g a b w':=by
 obtain ⟨M,cur,h1,h2⟩:=h
 exact ⟨M,cur,h1.on hb,h2⟩
theorem DelAt.skip {l:List EntV} {s:Int} {n cap g a b:Nat} {w:World} (h:DelAt l s n cap g a b w) {x:EntV} (hx:l[b]?=some x) (hs:(x.slot==s)=true):DelAt l s n cap g a (b+1) w:=by
 obtain ⟨M,cur,h1,h2,h3,h4,h5,h6⟩:=h
 obtain ⟨hb,e⟩:=List.getElem?_eq_some_iff.1 hx
 refine ⟨M,cur,h1,h2,h3,h4,?_,?_⟩
 ·rw [List.take_succ_eq_append_getElem hb,List.filter_append,h5,e]
  simp [hs]
 ·rw [←List.drop_drop,←List.drop_drop,h6]
theorem DelAt.entry {l:List EntV} {s:Int} {n cap g a b:Nat} {w:World} (h:DelAt l s n cap g a b w) {x:EntV} (hx:l[b]?=some x):∀j v,(cellsE x)[j]?=some v→w.cell? ⟨g,b*3+j,none⟩=some v:=by
 obtain ⟨M,cur,h1,h2,h3,h4,h5,h6⟩:=h
 intro j v hv
 have hj:j < 3:=(List.getElem?_eq_some_iff.1 hv).1
 have hM:M[b]?=some x:=by
  have:=congrArg (fun t:List EntV=>t[0]?) h6
  simp only [List.getElem?_drop,Nat.add_zero] at this
  rw [this,hx]
 have hb:=(List.getElem?_eq_some_iff.1 hM).1
 rw [h1.cell,←hv,←flatE_get hM hj,←h3,List.getElem?_take_of_lt (by omega)]
theorem DelAt.row {l:List EntV} {s:Int} {n cap g a b:Nat} {w:World} (h:DelAt l s n cap g a b w):∃cur,RowL w g 75 cur∧cur.length=cap*3∧(∀w' x,l[b]?=some x→(x.slot==s)=false→a < b→n≤cap→RowL w' g 75 (splice cur (a*3) (cellsE x))→DelAt l s n cap g (a+1) (b+1) w')∧(∀w' Z,b=l.length→a*3+Z.length≤cur.length→RowL w' g 75 (splice cur (a*3) Z)→a≤n→RdE entEn w' (Under w'.heap.size) (some ⟨g,0,none⟩) a (l.filter (fun x=>!(x.slot==s)))):=by
 obtain ⟨M,cur,h1,h2,h3,h4,h5,h6⟩:=h
 refine ⟨cur,h1,h2,fun w' x hx hs hab hnc hr=>?_,fun w' Z hb hfit hr han=>?_⟩
 ·obtain ⟨hb,e⟩:=List.getElem?_eq_some_iff.1 hx
  have hMl:l.drop b≠[]:=by intro e;rw [List.drop_eq_nil_iff] at e;omega
  have hbn:b < n:=by
   rcases Nat.lt_or_ge b n with h|h
   ·exact h
   ·exact absurd (h6.symm.trans (List.drop_of_length_le (by omega))) hMl
  have h3':cur.take (M.length*3)=flatE M:=by rw [h4];exact h3
  refine ⟨M.set a x,_,hr,by rw [length_splice _ _ _ (by show a*3+3≤_;omega),h2],?_,by rw [List.length_set,h4],?_,?_⟩
  ·have:=set_flat (a:=a) x h3' (by omega) (by omega)
   rw [h4] at this
   exact this
  ·rw [List.take_succ_eq_append_getElem hb,List.filter_append,←h5,List.take_succ_eq_append_getElem (by rw [List.length_set];omega),List.getElem_set_self,List.take_set_of_le (Nat.le_refl a),e]
   simp [hs]
  ·rw [List.drop_set_of_lt (by omega),←List.drop_drop,←List.drop_drop,h6]
 ·rw [List.take_of_length_le (l:=l) (by omega)] at h5
  have hla:(l.filter (fun x=>!(x.slot==s))).length=a:=by rw [←h5,List.length_take];omega
  have hz:(splice cur (a*3) Z).take ((l.filter (fun x=>!(x.slot==s))).length*3)=flatE (l.filter (fun x=>!(x.slot==s))):=by
   rw [hla,←h5,←flatE_take,←h3,List.take_take,Nat.min_eq_left (by omega)]
   apply List.ext_getElem?
   intro i
   by_cases hi:i < a*3
   ·rw [List.getElem?_take_of_lt hi,List.getElem?_take_of_lt hi,splice_get _ _ _ _ hfit,if_pos hi]
   ·rw [List.getElem?_eq_none (by rw [List.length_take];omega),List.getElem?_eq_none (by rw [List.length_take];omega)]
  have:=rde_row (D:=Under w'.heap.size) hr hr.lt hz
  rw [hla] at this
  exact this
theorem idx_spec (s:Int) (l:List EntV):(idxI s l = -1∧l.filter (fun x=>!(x.slot==s))=l)∨∃k:Nat,k < l.length∧idxI s l=k∧(l.take (k+1)).filter (fun x=>!(x.slot==s))=l.take k:=by
 have gen:∀(l:List EntV) (i:Nat),(idxS s l i=none∧l.filter (fun x=>!(x.slot==s))=l)∨∃k:Nat,k < l.length∧idxS s l i=some (i+k)∧(l.take (k+1)).filter (fun x=>!(x.slot==s))=l.take k:=by
  intro l
  induction l with
  | nil=>exact fun i=>.inl ⟨rfl,rfl⟩
  | cons x r ih =>
   intro i
   unfold idxS
   cases h:(x.slot==s) with
   | true=>exact .inr ⟨0,by simp,rfl,by simp [h]⟩
   | false =>
    rcases ih (i+1) with ⟨h1,h2⟩|⟨k,h1,h2,h3⟩
    ·exact .inl ⟨by simpa using h1,by rw [List.filter_cons_of_pos (by simp [h]),h2]⟩
    ·refine .inr ⟨k+1,by simpa using h1,by rw [if_neg (by simp),h2];congr 1;omega,?_⟩
     rw [List.take_succ_cons,List.filter_cons_of_pos (by simp [h]),h3,List.take_succ_cons]
 unfold idxI
 rcases gen l 0 with ⟨h1,h2⟩|⟨k,h1,h2,h3⟩
 ·exact .inl ⟨by rw [h1];rfl,h2⟩
 ·exact .inr ⟨k,h1,by rw [h2,Nat.zero_add];rfl,h3⟩
theorem del_start {w:World} {l:List EntV} {s:Int} {g cap k base n:Nat} (h:w.ownsRow base 75 3 (.slice (some ⟨g,0,none⟩) n cap) n (flatE l)) (hf:(l.take (k+1)).filter (fun x=>!(x.slot==s))=l.take k):DelAt l s n cap g k (k+1) w∧n≤cap∧l.length=n:=by
 have h0:=h.1
 rw [flatE_len] at h0
 have hl:l.length=n:=by omega
 rcases h.2 with ⟨e,_⟩|⟨g',cap',cur,e,_,hg,hnc,_,hs,ht⟩
 ·cases e
 ·cases e
  exact ⟨⟨l,cur.toList,by unfold RowL;simpa using hg,by simpa using hs,ht,hl,hf.symm,rfl⟩,hnc,hl⟩

end Go.Proofs.YtmhiohnkjpglfaaGreat

namespace Go.Proofs.YtmhiohnkjpglfaaGreat
open Go.RowKit Plain

structure AttV where
 (h o:Int)
 r:List UInt8
 (l i g s:Int)
 deriving DecidableEq
def att0:AttV:=⟨0,0,[],0,0,0,0⟩
end Go.Proofs.YtmhiohnkjpglfaaGreat

namespace Go.Proofs.YtmhiohnkjpglfaaGreat
open Go.RowKit Plain

structure NodV where
 (k p n g:Int)
 data:List UInt8
 ents:List EntV
 att:AttV
 deriving DecidableEq
def nod0:NodV:=⟨0,0,0,0,[],[],att0⟩
def nodAt (ns:List NodV) (i:Int):NodV:=if 1≤i∧i≤(ns.length:Int) then (ns[(i - 1).toNat]?).getD nod0 else nod0
def isDir (ns:List NodV) (i:Int):Bool:=decide ((nodAt ns i).k=1)
structure WayV where
 (ino up:Int)
 name:List UInt8
 deriving DecidableEq
abbrev StW:=List WayV×List (Int×Nat)
def cameW (l:List WayV) (i:Int):Bool:=l.any (fun x=>x.ino==i)
def oneW (dir:Int) (p:Nat) (s:StW) (x:EntV×Nat):StW :=
 if cameW s.1 x.1.ino then (s.1,s.2++[(dir,x.2)]) else (s.1++[⟨x.1.ino,p,x.1.name⟩],s.2)
def dirsOf (ns:List NodV) (l:List EntV):List (EntV×Nat):=l.zipIdx.filter (fun x=>isDir ns x.1.ino)
def visitW (ns:List NodV) (p:Nat) (s:StW):StW:=match s.1[p]? with
 | none=>s
 | some y=>(dirsOf ns (nodAt ns y.ino).ents).foldl (oneW y.ino p) s
def runW (ns : List NodV) : Nat → Nat → StW → StW
 | 0,_,s=>s
 | f+1,p,s=>if p < s.1.length then runW ns f (p+1) (visitW ns p s) else s
def rootW (ns:List NodV) (s:StW) (i:Int):StW:=if isDir ns i&&!cameW s.1 i then runW ns (ns.length - s.1.length) s.1.length (s.1++[⟨i,-1,[]⟩],s.2) else s
def walkW (ns:List NodV) (ff:List Int):StW:=ff.foldl (rootW ns) ([],[])

theorem isDir_in {ns:List NodV} {i:Int} (h:isDir ns i=true):1≤i∧i≤(ns.length:Int):=by
 unfold isDir nodAt at h
 split at h
 ·assumption
 ·simp [nod0] at h
theorem came_iff {l:List WayV} {i:Int}:cameW l i=true↔∃x∈l,x.ino=i:=by simp [cameW]
theorem came_not {l:List WayV} {i:Int} (h:cameW l i=false):∀x∈l,x.ino≠i:=by
 intro x hx e
 have:=(came_iff (l:=l) (i:=i)).2 ⟨x,hx,e⟩
 rw [h] at this
 cases this

def OkW (ns:List NodV) (l:List WayV):Prop:=(∀x∈l,isDir ns x.ino=true)∧(l.map WayV.ino).Nodup
theorem OkW.nil_ (ns:List NodV):OkW ns []:=⟨fun _ h=>(by cases h),List.nodup_nil⟩
theorem OkW.snoc {ns:List NodV} {l:List WayV} {x:WayV} (h:OkW ns l) (hd:isDir ns x.ino=true) (hc:cameW l x.ino=false):OkW ns (l++[x]):=by
 refine ⟨fun y hy=>?_,?_⟩
 ·rcases List.mem_append.1 hy with h1|h1
  ·exact h.1 y h1
  ·rw [List.mem_singleton] at h1;rw [h1];exact hd
 ·rw [List.map_append,List.nodup_append]
  refine ⟨h.2,by simp,?_⟩
  intro a ha b hb e
  simp at hb
  subst hb
  obtain ⟨y,hy,rfl⟩:=List.mem_map.1 ha
  exact came_not hc y hy e
theorem nodup_le:∀(n:Nat) (l:List Int),l.Nodup→(∀x∈l,1≤x∧x≤(n:Int))→l.length≤n:=by
 intro n
 induction n with
 | zero =>
  intro l _ h
  cases l with
  | nil=>exact Nat.le_refl _
  | cons x r=>have:=h x List.mem_cons_self;omega
 | succ n ih =>
  intro l hn h
  have h1:(l.erase ((n:Int)+1)).length≤n:=by
   refine ih _ (hn.erase _) fun x hx=>?_
   have h2:=(List.Nodup.mem_erase_iff hn).1 hx
   have h3:=h x h2.2
   have:=h2.1
   omega
  have h2:l.length≤(l.erase ((n:Int)+1)).length+1:=by
   rw [List.length_erase]
   split <;> omega
  omega
theorem OkW.le {ns:List NodV} {l:List WayV} (h:OkW ns l):l.length≤ns.length:=by
 have:=nodup_le ns.length (l.map WayV.ino) h.2 (fun x hx=>by
  obtain ⟨y,hy,rfl⟩:=List.mem_map.1 hx
  exact isDir_in (h.1 y hy))
 simpa using this
theorem OkW.lt {ns:List NodV} {l:List WayV} {i:Int} (h:OkW ns l) (hd:isDir ns i=true) (hc:cameW l i=false):l.length < ns.length:=by
 have:=(h.snoc (x:=⟨i,0,[]⟩) hd hc).le
 simp at this
 omega
theorem dirsOf_dir {ns:List NodV} {l:List EntV}:∀x∈dirsOf ns l,isDir ns x.1.ino=true:=fun _ hx=>(List.mem_filter.1 hx).2

theorem foldl_keep {α β:Type} {f:β→α→β} {P:β→Prop} (l:List α) (s:β) (hs:P s) (h:∀s x,x∈l→P s→P (f s x)):P (l.foldl f s):=by
 induction l generalizing s with
 | nil=>exact hs
 | cons x r ih=>exact ih _ (h s x List.mem_cons_self hs) (fun s y hy=>h s y (List.mem_cons_of_mem _ hy))
theorem one_ok {ns:List NodV} {dir:Int} {p:Nat} {s:StW} {x:EntV×Nat} (h:OkW ns s.1) (hd:isDir ns x.1.ino=true):OkW ns (oneW dir p s x).1:=by
 unfold oneW
 cases hc:cameW s.1 x.1.ino with
 | true=>simpa using h
 | false=>simpa using h.snoc (x:=⟨x.1.ino,p,x.1.name⟩) hd hc
theorem one_pre {dir:Int} {p:Nat} {s:StW} {x:EntV×Nat}:s.1 <+: (oneW dir p s x).1:=by
 unfold oneW
 split
 ·exact List.prefix_refl _
 ·exact List.prefix_append _ _
theorem visit_ok {ns:List NodV} {p:Nat} {s:StW} (h:OkW ns s.1):OkW ns (visitW ns p s).1:=by
 unfold visitW
 split
 ·exact h
 ·exact foldl_keep (P:=fun s:StW=>OkW ns s.1) _ _ h (fun _ x hx hs=>one_ok hs (dirsOf_dir x hx))
theorem visit_pre {ns:List NodV} {p:Nat} {s:StW}:s.1 <+: (visitW ns p s).1:=by
 unfold visitW
 split
 ·exact List.prefix_refl _
 ·exact foldl_keep (P:=fun t:StW=>s.1 <+: t.1) _ _ (List.prefix_refl _) (fun _ _ _ hs=>hs.trans one_pre)
theorem run_ok {ns : List NodV} : ∀ (f p : Nat) (s : StW), OkW ns s.1 → OkW ns (runW ns f p s).1
 | 0,_,_,h=>h
 | f+1,p,s,h=>by
  unfold runW
  split
  ·exact run_ok f _ _ (visit_ok h)
  ·exact h
theorem run_pre {ns : List NodV} : ∀ (f p : Nat) (s : StW), s.1 <+: (runW ns f p s).1
 | 0,_,_=>List.prefix_refl _
 | f+1,p,s=>by
  unfold runW
  split
  ·exact visit_pre.trans (run_pre f _ _)
  ·exact List.prefix_refl _
theorem root_ok {ns:List NodV} {s:StW} {i:Int} (h:OkW ns s.1):OkW ns (rootW ns s i).1:=by
 unfold rootW
 split
 ·rename_i hc
  rw [Bool.and_eq_true,Bool.not_eq_true'] at hc
  exact run_ok _ _ _ (h.snoc (x:=⟨i,-1,[]⟩) hc.1 hc.2)
 ·exact h
theorem walk_ok (ns:List NodV) (ff:List Int):OkW ns (walkW ns ff).1:=foldl_keep (P:=fun s:StW=>OkW ns s.1) _ _ (OkW.nil_ ns) (fun _ _ _ hs=>root_ok hs)
theorem walk_snoc (ns:List NodV) (ff:List Int) (i:Int):walkW ns (ff++[i])=rootW ns (walkW ns ff) i:=by simp [walkW]

theorem one_tw {dir:Int} {p:Nat} {s:StW} {x:EntV×Nat}:(oneW dir p s x).2.length≤s.2.length+1:=by
 unfold oneW
 split <;> simp
theorem fold_tw (dir : Int) (p : Nat) : ∀ (l : List (EntV × Nat)) (s : StW), (l.foldl (oneW dir p) s).2.length ≤ s.2.length + l.length
 | [],s=>by simp
 | x::r,s=>by
  have h1:=fold_tw dir p r (oneW dir p s x)
  have h2:=one_tw (dir:=dir) (p:=p) (s:=s) (x:=x)
  simp only [List.foldl_cons,List.length_cons]
  omega
def Many (ns:List NodV):Prop:=ns.length≤24∧∀x∈ns,x.ents.length≤16
theorem nodAt_ents {ns:List NodV} (h:Many ns) (i:Int):(nodAt ns i).ents.length≤16:=by
 unfold nodAt
 split
 ·cases hx:ns[(i - 1).toNat]? with
  | none=>simp [nod0]
  | some x=>simpa using h.2 x (List.mem_of_getElem? hx)
 ·simp [nod0]
theorem dirsOf_len (ns:List NodV) (l:List EntV):(dirsOf ns l).length≤l.length:=by
 unfold dirsOf
 exact Nat.le_trans (List.length_filter_le _ _) (by simp)
theorem visit_tw {ns:List NodV} (h:Many ns) (p:Nat) (s:StW):(visitW ns p s).2.length≤s.2.length+16:=by
 unfold visitW
 split
 ·omega
 ·rename_i y _
  have h1:=fold_tw y.ino p (dirsOf ns (nodAt ns y.ino).ents) s
  have h2:=dirsOf_len ns (nodAt ns y.ino).ents
  have h3:=nodAt_ents h y.ino
  omega
end Go.Proofs.YtmhiohnkjpglfaaGreat

namespace Go.Proofs.YtmhiohnkjpglfaaGreat
open Go.RowKit Go.Shelf Plain

def nodC (x:NodV) (d e:Value):List Value:=[.int .i64 x.k,.int .i64 x.p,.int .i64 x.n,.int .i64 x.g,d,e,.int .i64 x.att.h,.int .i64 x.att.o,.string ⟨x.att.r.toArray⟩,.int .i64 x.att.l,.int .i64 x.att.i,.int .i64 x.att.g,.int .i64 x.att.s]
def NodR (w:World) (D:Nat→Prop) (cs:List Value) (x:NodV):Prop:=∃A n c C m d,cs=nodC x (.slice A n c) (.slice C m d)∧n≤c∧RdE Enc.byte w D A n x.data∧m≤d∧RdE entEn w D C m x.ents
theorem NodR.mono {w w':World} {D D':Nat→Prop} {cs:List Value} {x:NodV} (h:NodR w D cs x) (hk:Kept D w w') (hD:∀b,D b→D' b):NodR w' D' cs x:=by
 obtain ⟨A,n,c,C,m,d,h1,h2,h3,h4,h5⟩:=h
 exact ⟨A,n,c,C,m,d,h1,h2,h3.mono hk hD,h4,h5.mono hk hD⟩
def nodEn : Enc NodV where
 k:=13
 R:=NodR
 len:=fun ⟨_,_,_,_,_,_,h,_⟩=>by rw [h];rfl
 one:=fun ⟨_,_,_,_,_,_,h,_⟩ v hv=>by
  rw [h] at hv
  simp only [nodC,List.mem_cons,List.not_mem_nil,or_false] at hv
  rcases hv with rfl|rfl|rfl|rfl|rfl|rfl|rfl|rfl|rfl|rfl|rfl|rfl|rfl <;> rfl
 mono:=NodR.mono
theorem RdE.get_nod {w:World} {D:Nat→Prop} {A:Option Addr} {n:Nat} {l:List NodV} (h:RdE nodEn w D A n l) {i:Nat} {x:NodV} (hx:l[i]?=some x) :
  ∃b o cs,A=some ⟨b,o,none⟩∧D b∧NodR w D cs x∧∀j v,cs[j]?=some v→w.cell? ⟨b,o+i*13+j,none⟩=some v:=by
 have hi:=(List.getElem?_eq_some_iff.1 hx).1
 obtain ⟨b,o,e,hb,hc⟩:=h.2 (by have:=h.1;omega)
 obtain ⟨cs,hcs,hcell⟩:=hc i x hx
 refine ⟨b,o,cs,e,hb,hcs,fun j v hv=>?_⟩
 have:=hcell j v hv
 rwa [show o+(i*nodEn.k+j)=o+i*13+j from by show o+(i*13+j)=o+i*13+j;omega] at this
set_option maxRecDepth 100000 in
theorem nod_agg:∀w,(isAgg 67).run Tryz.prog w=.ok true w:=fun w=>by kernel_rfl
set_option maxRecDepth 100000 in
theorem nod_size:∀w,(Go.sizeOf 67).run Tryz.prog w=.ok 13 w:=fun w=>by kernel_rfl
theorem nodC_one (x:NodV) (A C:Option Addr) (n c m d:Nat):∀v∈nodC x (.slice A n c) (.slice C m d),v.oneCell'=true:=by simp [nodC,Value.oneCell']
def NodRet (w:World) (B:Nat) (x:NodV) (e:Ending) (w':World):Prop:=∃A n c C m d,e=.returned (.agg (nodC x (.slice A n c) (.slice C m d)).toArray)∧n≤c∧RdE Enc.byte w' (Under B) A n x.data∧m≤d∧RdE entEn w' (Under B) C m x.ents∧Below w.heap.size w w'
theorem RdE.under {α:Type} {E:Enc α} {w w':World} {B:Nat} {A:Option Addr} {n:Nat} {l:List α} (h:RdE E w (Under B) A n l) (hb:Below w.heap.size w w') (hB:B≤w.heap.size):RdE E w' (Under B) A n l :=
 h.mono (Kept.of_below hb fun _ h=>Nat.lt_of_lt_of_le h hB) fun _ h=>h
theorem NodRet.of {w w':World} {B:Nat} {x:NodV} {A C:Option Addr} {n c m d:Nat} (hn:n≤c) (h1:RdE Enc.byte w (Under B) A n x.data) (hm:m≤d) (h2:RdE entEn w (Under B) C m x.ents) (hb:Below w.heap.size w w') (hB:B≤w.heap.size):NodRet w B x (.returned (.agg (nodC x (.slice A n c) (.slice C m d)).toArray)) w' :=
 ⟨A,n,c,C,m,d,rfl,hn,h1.under hb hB,hm,h2.under hb hB,hb⟩
def WkN (w:World) (B g:Nat) (ns:List NodV):Prop:=∃A n c,w.cell? ⟨g,0,none⟩=some (.slice A n c)∧RdE nodEn w (Under B) A n ns
theorem WkN.on {w w':World} {B g:Nat} {ns:List NodV} (h:WkN w B g ns) (hb:Below w.heap.size w w') (hB:B≤w.heap.size) (hg:g < w.heap.size):WkN w' B g ns:=by
 obtain ⟨A,n,c,h1,h2⟩:=h
 exact ⟨A,n,c,(hb.cell (p:=⟨g,0,none⟩) hg).trans h1,h2.under hb hB⟩
end Go.Proofs.YtmhiohnkjpglfaaGreat

namespace Go.Proofs.YtmhiohnkjpglfaaGreat
open Go.RowKit Plain

theorem run_tw {ns : List NodV} (h : Many ns) : ∀ (f p : Nat) (s : StW), p ≤ s.1.length → s.2.length ≤ 16 * p → (runW ns f p s).2.length ≤ 16 * (runW ns f p s).1.length
 | 0,p,s,h1,h2=>by show s.2.length≤16*s.1.length;omega
 | f+1,p,s,h1,h2=>by
  unfold runW
  split
  ·have h3:=visit_tw h p s
   have h4:=(visit_pre (ns:=ns) (p:=p) (s:=s)).length_le
   exact run_tw h f _ _ (by omega) (by omega)
  ·omega
theorem root_tw {ns:List NodV} (h:Many ns) {s:StW} {i:Int} (hs:s.2.length≤16*s.1.length):(rootW ns s i).2.length≤16*(rootW ns s i).1.length:=by
 unfold rootW
 split
 ·exact run_tw h _ _ _ (by simp) (by simpa using hs)
 ·exact hs
theorem walk_tw {ns:List NodV} (h:Many ns) (ff:List Int):(walkW ns ff).2.length≤16*(walkW ns ff).1.length:=foldl_keep (P:=fun s:StW=>s.2.length≤16*s.1.length) _ _ (by simp) (fun _ _ _ hs=>root_tw h hs)

def reachW (ns:List NodV) (l:List WayV) (i:Int):Bool:=l.any (fun y=>y.ino==i||(nodAt ns y.ino).ents.any (fun e=>e.ino==i))
def keepE (t:List (Int×Nat)) (i:Int) (l:List EntV):List EntV:=(l.zipIdx.filter (fun x=>!t.contains (i,x.2))).map (fun x=>x.1)
def pruneN (t:List (Int×Nat)) (r:Bool) (i:Int) (n:NodV):NodV:=if r then {n with ents:=keepE t i n.ents} else nod0
def pruneW (ns:List NodV) (s:StW):List NodV:=ns.mapIdx (fun j n=>pruneN s.2 (reachW ns s.1 ((j:Int)+1)) ((j:Int)+1) n)

theorem fold_sim (d:Int) (p:Nat):∀(xs:List (EntV×Nat)) (s:StW),(xs.map (fun x=>x.2)).Nodup→(∀x∈xs,(d,x.2)∉s.2) →
  (xs.filter (fun x=>!(xs.foldl (oneW d p) s).2.contains (d,x.2))).foldl (oneW d p) (s.1,[])=((xs.foldl (oneW d p) s).1,[])∧(∀q∈s.2,q∈(xs.foldl (oneW d p) s).2)∧(∀q∈(xs.foldl (oneW d p) s).2,q∈s.2∨∃x∈xs,q=(d,x.2)):=by
 intro xs
 induction xs with
 | nil=>intro s _ _;exact ⟨rfl,fun q h=>h,fun q h=>.inl h⟩
 | cons x r ih =>
  intro s hn hs
  rw [List.map_cons,List.nodup_cons] at hn
  have hx:∀y∈r,y.2≠x.2:=fun y hy e=>hn.1 (by rw [←e];exact List.mem_map_of_mem hy)
  simp only [List.foldl_cons]
  cases hc:cameW s.1 x.1.ino with
  | true =>
   have h1:oneW d p s x=(s.1,s.2++[(d,x.2)]):=by unfold oneW;rw [if_pos hc]
   rw [h1]
   obtain ⟨i1,i2,i3⟩:=ih (s.1,s.2++[(d,x.2)]) hn.2 (fun y hy h=>by
    rcases List.mem_append.1 h with h|h
    ·exact hs y (List.mem_cons_of_mem _ hy) h
    ·rw [List.mem_singleton] at h;exact hx y hy (Prod.mk.inj h).2)
   have hm:(d,x.2)∈(List.foldl (oneW d p) (s.1,s.2++[(d,x.2)]) r).2:=i2 _ (by simp)
   refine ⟨?_,fun q hq=>i2 q (List.mem_append_left _ hq),fun q hq=>?_⟩
   ·rw [List.filter_cons_of_neg (by simpa using hm)]
    exact i1
   ·rcases i3 q hq with h|⟨y,hy,e⟩
    ·rcases List.mem_append.1 h with h|h
     ·exact .inl h
     ·rw [List.mem_singleton] at h;exact .inr ⟨x,List.mem_cons_self,h⟩
    ·exact .inr ⟨y,List.mem_cons_of_mem _ hy,e⟩
  | false =>
   have h1:oneW d p s x=(s.1++[⟨x.1.ino,p,x.1.name⟩],s.2):=by unfold oneW;rw [hc];rfl
   rw [h1]
   obtain ⟨i1,i2,i3⟩:=ih (s.1++[⟨x.1.ino,p,x.1.name⟩],s.2) hn.2 (fun y hy=>hs y (List.mem_cons_of_mem _ hy))
   have hm:(d,x.2)∉(List.foldl (oneW d p) (s.1++[⟨x.1.ino,p,x.1.name⟩],s.2) r).2:=by
    intro h
    rcases i3 _ h with h|⟨y,hy,e⟩
    ·exact hs x List.mem_cons_self h
    ·exact hx y hy (Prod.mk.inj e).2.symm
   refine ⟨?_,i2,fun q hq=>?_⟩
   ·rw [List.filter_cons_of_pos (by simpa using hm),List.foldl_cons]
    have h2:oneW d p (s.1,[]) x=(s.1++[⟨x.1.ino,p,x.1.name⟩],[]):=by unfold oneW;rw [show (s.1,([]:List (Int×Nat))).1=s.1 from rfl,hc];rfl
    rw [h2]
    exact i1
   ·rcases i3 q hq with h|⟨y,hy,e⟩
    ·exact .inl h
    ·exact .inr ⟨y,List.mem_cons_of_mem _ hy,e⟩
theorem one_more (d : Int) (p : Nat) (l : List WayV) (t : List (Int × Nat)) : ∀ (xs : List (EntV × Nat)) (s : StW), s.2 ≠ [] → (xs.foldl (oneW d p) s).2 ≠ []
 | [],_,h=>h
 | x::r,s,h=>one_more d p l t r _ (by unfold oneW;split <;> simp [h])
theorem fold_same (d:Int) (p:Nat):∀(xs ys:List (EntV×Nat)) (l:List WayV),xs.map (fun x=>x.1)=ys.map (fun x=>x.1)→(xs.foldl (oneW d p) (l,[])).2=[]→ys.foldl (oneW d p) (l,[])=xs.foldl (oneW d p) (l,[]):=by
 intro xs
 induction xs with
 | nil =>
  intro ys l h _
  have:ys=[]:=by cases ys with|nil=>rfl|cons y r=>simp at h
  rw [this]
 | cons x r ih =>
  intro ys l h h0
  cases ys with
  | nil=>simp at h
  | cons y q =>
   simp only [List.map_cons,List.cons.injEq] at h
   simp only [List.foldl_cons] at h0 ⊢
   cases hc:cameW l x.1.ino with
   | true =>
    exfalso
    refine one_more d p [] [] r (oneW d p (l,[]) x) ?_ h0
    unfold oneW
    simp [hc]
   | false =>
    have h1:oneW d p (l,[]) x=(l++[⟨x.1.ino,p,x.1.name⟩],[]):=by unfold oneW;simp [hc]
    have h2:oneW d p (l,[]) y=(l++[⟨x.1.ino,p,x.1.name⟩],[]):=by unfold oneW;rw [←h.1];simp [hc]
    rw [h1] at h0 ⊢
    rw [h2]
    exact ih q _ h.2 h0

def AheadW (p:Nat) (s:StW):Prop:=∀q∈s.2,∃j y,j < p∧s.1[j]?=some y∧y.ino=q.1
def AddsW (p:Nat) (s r:StW):Prop:=s.1 <+: r.1∧(∀q∈s.2,q∈r.2)∧∀q∈r.2,q∈s.2∨∃j y,p≤j∧r.1[j]?=some y∧y.ino=q.1
theorem AddsW.refl (p:Nat) (s:StW):AddsW p s s:=⟨List.prefix_refl _,fun _ h=>h,fun _ h=>.inl h⟩
theorem pre_get {l r:List WayV} {j:Nat} {y:WayV} (h:l <+: r) (hy:l[j]?=some y):r[j]?=some y:=by
 obtain ⟨t,rfl⟩:=h
 rw [List.getElem?_append_left (List.getElem?_eq_some_iff.1 hy).1]
 exact hy
theorem AddsW.trans {p p':Nat} {s r u:StW} (h:AddsW p s r) (k:AddsW p' r u) (hp:p≤p'):AddsW p s u:=by
 refine ⟨h.1.trans k.1,fun q hq=>k.2.1 q (h.2.1 q hq),fun q hq=>?_⟩
 rcases k.2.2 q hq with h1|⟨j,y,h1,h2,h3⟩
 ·rcases h.2.2 q h1 with h1|⟨j,y,h1,h2,h3⟩
  ·exact .inl h1
  ·exact .inr ⟨j,y,h1,pre_get k.1 h2,h3⟩
 ·exact .inr ⟨j,y,by omega,h2,h3⟩
theorem AheadW.mono {p p':Nat} {s:StW} (h:AheadW p s) (hp:p≤p'):AheadW p' s:=fun q hq=>by
 obtain ⟨j,y,h1,h2,h3⟩:=h q hq
 exact ⟨j,y,by omega,h2,h3⟩
theorem AheadW.adds {p p':Nat} {s r:StW} (h:AheadW p s) (k:∀q∈r.2,q∈s.2∨∃j y,j < p'∧r.1[j]?=some y∧y.ino=q.1) (hs:s.1 <+: r.1) (hp:p≤p'):AheadW p' r:=fun q hq=>by
 rcases k q hq with h1|h1
 ·obtain ⟨j,y,h2,h3,h4⟩:=h q h1
  exact ⟨j,y,by omega,pre_get hs h3,h4⟩
 ·exact h1
theorem dirsOf_nodup (ns:List NodV) (l:List EntV):((dirsOf ns l).map (fun x=>x.2)).Nodup:=by
 unfold dirsOf
 refine List.Nodup.sublist ((List.filter_sublist).map _) ?_
 rw [List.zipIdx_map_snd]
 exact List.nodup_range'
theorem nodup_get {l:List WayV} (h:(l.map WayV.ino).Nodup) {i j:Nat} {x y:WayV} (hx:l[i]?=some x) (hy:l[j]?=some y) (e:x.ino=y.ino):i=j:=by
 have h1:(l.map WayV.ino)[i]?=some x.ino:=by rw [List.getElem?_map,hx];rfl
 have h2:(l.map WayV.ino)[j]?=some x.ino:=by rw [List.getElem?_map,hy,e];rfl
 obtain ⟨hi,h3⟩:=List.getElem?_eq_some_iff.1 h1
 obtain ⟨hj,h4⟩:=List.getElem?_eq_some_iff.1 h2
 have hp:=List.pairwise_iff_getElem.1 h
 rcases Nat.lt_trichotomy i j with hlt|he|hgt
 ·exact absurd (h3.trans h4.symm) (hp i j hi hj hlt)
 ·exact he
 ·exact absurd (h4.trans h3.symm) (hp j i hj hi hgt)
theorem fresh_dir {ns:List NodV} {p:Nat} {s:StW} {y:WayV} (ho:OkW ns s.1) (ha:AheadW p s) (hy:s.1[p]?=some y) (k:Nat):(y.ino,k)∉s.2:=by
 intro h
 obtain ⟨j,z,h1,h2,h3⟩:=ha _ h
 have:=nodup_get ho.2 h2 hy h3
 omega
theorem visit_adds {ns:List NodV} {p:Nat} {s:StW} (ho:OkW ns s.1) (ha:AheadW p s):AddsW p s (visitW ns p s)∧AheadW (p+1) (visitW ns p s):=by
 unfold visitW
 cases hy:s.1[p]? with
 | none=>exact ⟨AddsW.refl _ _,ha.mono (by omega)⟩
 | some y =>
  have hsim:=fold_sim y.ino p (dirsOf ns (nodAt ns y.ino).ents) s (dirsOf_nodup _ _) (fun x _=>fresh_dir ho ha hy x.2)
  have hpre:s.1 <+: ((dirsOf ns (nodAt ns y.ino).ents).foldl (oneW y.ino p) s).1:=foldl_keep (P:=fun t:StW=>s.1 <+: t.1) _ _ (List.prefix_refl _) (fun _ _ _ hs=>hs.trans one_pre)
  have hq:∀q∈((dirsOf ns (nodAt ns y.ino).ents).foldl (oneW y.ino p) s).2,q∈s.2∨(((dirsOf ns (nodAt ns y.ino).ents).foldl (oneW y.ino p) s).1[p]?=some y∧y.ino=q.1):=fun q hq=>by
   rcases hsim.2.2 q hq with h|⟨x,_,rfl⟩
   ·exact .inl h
   ·exact .inr ⟨pre_get hpre hy,rfl⟩
  refine ⟨⟨hpre,hsim.2.1,fun q h=>?_⟩,ha.adds (fun q h=>?_) hpre (by omega)⟩
  ·rcases hq q h with h1|⟨h1,h2⟩
   ·exact .inl h1
   ·exact .inr ⟨p,y,Nat.le_refl _,h1,h2⟩
  ·rcases hq q h with h1|⟨h1,h2⟩
   ·exact .inl h1
   ·exact .inr ⟨p,y,by omega,h1,h2⟩
theorem run_adds {ns : List NodV} : ∀ (f p : Nat) (s : StW), OkW ns s.1 → AheadW p s → p ≤ s.1.length → AddsW p s (runW ns f p s) ∧ AheadW (runW ns f p s).1.length (runW ns f p s)
 | 0,p,s,_,ha,hp=>⟨AddsW.refl _ _,ha.mono hp⟩
 | f+1,p,s,ho,ha,hp=>by
  unfold runW
  split
  ·obtain ⟨h1,h2⟩:=visit_adds ho ha
   have h3:=run_adds f (p+1) _ (visit_ok (p:=p) ho) h2 (by have:=h1.1.length_le;omega)
   exact ⟨h1.trans h3.1 (by omega),h3.2⟩
  ·exact ⟨AddsW.refl _ _,ha.mono hp⟩
theorem root_adds {ns:List NodV} {s:StW} {i:Int} (ho:OkW ns s.1) (ha:AheadW s.1.length s):AddsW s.1.length s (rootW ns s i)∧AheadW (rootW ns s i).1.length (rootW ns s i):=by
 unfold rootW
 split
 ·rename_i hc
  rw [Bool.and_eq_true,Bool.not_eq_true'] at hc
  have hpre:s.1 <+: s.1++[⟨i,-1,[]⟩]:=List.prefix_append _ _
  have ha':AheadW s.1.length (s.1++[⟨i,-1,[]⟩],s.2):=ha.adds (fun q h=>.inl h) hpre (Nat.le_refl _)
  obtain ⟨h1,h2⟩:=run_adds (ns.length - s.1.length) s.1.length _ (ho.snoc (x:=⟨i,-1,[]⟩) hc.1 hc.2) ha' (by simp)
  exact ⟨AddsW.trans (s:=s) (r:=(s.1++[⟨i,-1,[]⟩],s.2)) ⟨hpre,fun _ h=>h,fun _ h=>.inl h⟩ h1 (Nat.le_refl _),h2⟩
 ·exact ⟨AddsW.refl _ _,ha⟩
end Go.Proofs.YtmhiohnkjpglfaaGreat

