import Derived.Test.YtpndfahgflgocaaGreatDoorLn1

namespace Go.Proofs.YtpndfahgflgocaaGreatDoor
open Go.RowKit

def Kept (D:Nat→Prop) (w w':World):Prop:=∀b,D b→w'.heap[b]?=w.heap[b]?
theorem Kept.cell {D:Nat→Prop} {w w':World} (h:Kept D w w') {b o:Nat} (hb:D b):w'.cell? ⟨b,o,none⟩=w.cell? ⟨b,o,none⟩:=by
 simp only [World.cell?,h b hb]
theorem Kept.of_below {D:Nat→Prop} {B:Nat} {w w':World} (h:Below B w w') (hD:∀b,D b→b < B):Kept D w w':=fun b hb=>h.block b (hD b hb)
def Under (B:Nat) (b:Nat):Prop:=b < B
class Tags where
 bad:TypeId→Bool
instance (priority:=low) Tags.none:Tags:=⟨fun _=>false⟩
def Und [Tags] (w:World) (b:Nat):Prop:=b < w.heap.size∧∀arr t fr,w.heap[b]?=some (.cells arr t fr)→Tags.bad t=false
theorem Und.eq [Tags] {w w':World} {b:Nat} (h:Und w b) (hs:w.heap.size≤w'.heap.size) (he:w'.heap[b]?=w.heap[b]?):Und w' b:=⟨Nat.lt_of_lt_of_le h.1 hs,fun arr t fr ht=>h.2 arr t fr (he.symm.trans ht)⟩
theorem Und.on [Tags] {w w':World} {b:Nat} (h:Und w b) (hb:Below w.heap.size w w'):Und w' b:=h.eq hb.size (hb.block b h.1)
theorem Und.row [Tags] {w:World} {b:Nat} {arr:Array Value} {t:TypeId} {fr:Nat×Nat} (h:w.heap[b]?=some (.cells arr t fr)) (ht:Tags.bad t=false):Und w b:=by
 refine ⟨?_,fun arr' t' fr' h'=>?_⟩
 ·rcases Nat.lt_or_ge b w.heap.size with hlt|hge
  ·exact hlt
  ·rw [Array.getElem?_eq_none hge] at h;cases h
 ·have e:=Option.some.inj (h.symm.trans h')
  injection e with _ e _
  rw [←e]
  exact ht
theorem Und.under [Tags] {w:World} {b:Nat} (h:Und w b):Under w.heap.size b:=h.1
def But [Tags] (w:World) (A:Option Addr) (b:Nat):Prop:=Und w b∧∀a,A=some a→b≠a.block

structure Enc (α : Type) where
 k:Nat
 R:World→(Nat→Prop)→List Value→α→Prop
 len:∀ {w:World} {D:Nat→Prop} {cs:List Value} {x:α},R w D cs x→cs.length=k
 one:∀ {w:World} {D:Nat→Prop} {cs:List Value} {x:α},R w D cs x→∀v∈cs,v.oneCell'=true
 mono:∀ {w w':World} {D D':Nat→Prop} {cs:List Value} {x:α},R w D cs x→Kept D w w'→(∀b,D b→D' b)→R w' D' cs x

variable {α β : Type} {E : Enc α}

def RdE (E:Enc α) (w:World) (D:Nat→Prop) (A:Option Addr) (n:Nat) (l:List α):Prop :=
 l.length=n∧(0 < n→∃b o,A=some ⟨b,o,none⟩∧D b∧∀i x,l[i]?=some x→∃cs,E.R w D cs x∧∀j v,cs[j]?=some v→w.cell? ⟨b,o+(i*E.k+j),none⟩=some v)
theorem RdE.none_ (E:Enc α) (w:World) (D:Nat→Prop) (A:Option Addr):RdE E w D A 0 []:=⟨rfl,fun h=>absurd h (by omega)⟩
section
variable {w w' : World} {D D' : Nat → Prop} {n : Nat} {A : Option Addr} {l : List α}
theorem RdE.len (h:RdE E w D A n l):l.length=n:=h.1
theorem RdE.mono (h:RdE E w D A n l) (hk:Kept D w w') (hD:∀b,D b→D' b):RdE E w' D' A n l:=⟨h.1,fun hn=>by
 obtain ⟨b,o,e,hb,hc⟩:=h.2 hn
 refine ⟨b,o,e,hD b hb,fun i x hx=>?_⟩
 obtain ⟨cs,hR,hcs⟩:=hc i x hx
 exact ⟨cs,E.mono hR hk hD,fun j v hv=>(hk.cell hb).trans (hcs j v hv)⟩⟩
theorem RdE.plain [Tags] (h:RdE E w (Und w) A n l):RdE E w (Under w.heap.size) A n l:=h.mono (fun _ _=>rfl) fun _ h=>h.1
theorem RdE.on (h:RdE E w (Under w.heap.size) A n l) (hb:Below w.heap.size w w'):RdE E w' (Under w'.heap.size) A n l :=
 h.mono (Kept.of_below hb fun _ h=>h) fun b h=>by have:=hb.size;unfold Under at h ⊢;omega
theorem RdE.pre {i:Nat} (h:RdE E w D A n l) (hi:i≤n):RdE E w D A i (l.take i):=by
 refine ⟨by have:=h.1;simp;omega,fun hn=>?_⟩
 obtain ⟨b,o,e,hb,hc⟩:=h.2 (by omega)
 refine ⟨b,o,e,hb,fun j x hx=>hc j x ?_⟩
 rw [List.getElem?_take] at hx
 split at hx
 ·exact hx
 ·cases hx
end

def Enc.val (f : α → Value) (h1 : ∀ x, (f x).oneCell' = true) : Enc α where
 k:=1
 R:=fun _ _ cs x=>cs=[f x]
 len:=fun h=>by rw [h];rfl
 one:=fun h v hv=>by rw [h,List.mem_singleton] at hv;rw [hv];exact h1 _
 mono:=fun h _ _=>h
def Enc.int:Enc Int:=Enc.val (fun x=>.int .i64 x) (fun _=>rfl)
def Enc.bool:Enc Bool:=Enc.val (fun x=>.bool x) (fun _=>rfl)
def Enc.byte:Enc UInt8:=Enc.val bv (fun _=>rfl)
def Enc.text:Enc (List UInt8):=Enc.val (fun x=>.string ⟨x.toArray⟩) (fun _=>rfl)
def Enc.list (E : Enc α) : Enc (List α) where
 k:=1
 R:=fun w D cs x=>∃A n c,cs=[.slice A n c]∧n≤c∧RdE E w D A n x
 len:=fun ⟨_,_,_,h,_⟩=>by rw [h];rfl
 one:=fun ⟨_,_,_,h,_⟩ v hv=>by rw [h,List.mem_singleton] at hv;rw [hv];rfl
 mono:=fun ⟨A,n,c,h,hc,hr⟩ hk hD=>⟨A,n,c,h,hc,hr.mono hk hD⟩
def Enc.bytes:Enc (List UInt8):=Enc.list Enc.byte
def Enc.pair (E : Enc α) (F : Enc β) : Enc (α × β) where
 k:=E.k+F.k
 R:=fun w D cs x=>∃c1 c2,cs=c1++c2∧E.R w D c1 x.1∧F.R w D c2 x.2
 len:=fun ⟨c1,c2,h,h1,h2⟩=>by rw [h,List.length_append,E.len h1,F.len h2]
 one:=fun ⟨c1,c2,h,h1,h2⟩ v hv=>by
  rw [h,List.mem_append] at hv
  rcases hv with hv|hv
  ·exact E.one h1 v hv
  ·exact F.one h2 v hv
 mono:=fun ⟨c1,c2,h,h1,h2⟩ hk hD=>⟨c1,c2,h,E.mono h1 hk hD,F.mono h2 hk hD⟩
def Enc.as (E : Enc α) (g : β → α) : Enc β where
 k:=E.k
 R:=fun w D cs x=>E.R w D cs (g x)
 len:=E.len
 one:=E.one
 mono:=E.mono
theorem Bs.of_rd {w:World} {B n:Nat} {A:Option Addr} {l:List UInt8} (h:RdE Enc.byte w (Under B) A n l):Bs w B A n l:=⟨h.1,fun hn=>by
 obtain ⟨b,o,e,hb,hc⟩:=h.2 hn
 refine ⟨b,o,e,hb,fun i x hx=>?_⟩
 obtain ⟨cs,hR,hcs⟩:=hc i x hx
 obtain rfl:cs=[bv x]:=hR
 have:=hcs 0 (bv x) rfl
 rwa [show i*Enc.byte.k+0=i from by show i*1+0=i;omega] at this⟩
theorem RdE.of_bs {w:World} {D:Nat→Prop} {B n:Nat} {A:Option Addr} {l:List UInt8} (h:Bs w B A n l) (hD:0 < n→∀a,A=some a→D a.block):RdE Enc.byte w D A n l:=⟨h.1,fun hn=>by
 obtain ⟨b,o,e,hb,hc⟩:=h.2 hn
 refine ⟨b,o,e,hD hn _ e,fun i x hx=>⟨[bv x],rfl,fun j v hv=>?_⟩⟩
 have hj:j=0:=by have:=(List.getElem?_eq_some_iff.1 hv).1;simpa using this
 subst hj
 obtain rfl:bv x=v:=by simpa using hv
 rw [show i*Enc.byte.k+0=i from by show i*1+0=i;omega]
 exact hc i x hx⟩

theorem flat_get {k:Nat} {css:List (List Value)} (hk:∀cs∈css,cs.length=k):∀ {i j:Nat} {cs:List Value},css[i]?=some cs→j < k→css.flatten[i*k+j]?=cs[j]?:=by
 induction css with
 | nil=>intro i j cs h;simp at h
 | cons c0 r ih =>
  intro i j cs h hj
  have h0:c0.length=k:=hk c0 List.mem_cons_self
  cases i with
  | zero =>
   simp at h
   subst h
   rw [List.flatten_cons,List.getElem?_append_left (by omega)]
   congr 1
   omega
  | succ i =>
   rw [List.flatten_cons,List.getElem?_append_right (by rw [h0,Nat.succ_mul];omega),h0]
   have e:(i+1)*k+j - k=i*k+j:=by rw [Nat.succ_mul];omega
   rw [e]
   exact ih (fun cs hc=>hk cs (List.mem_cons_of_mem _ hc)) (by simpa using h) hj
theorem flat_len {k:Nat} {css:List (List Value)} (hk:∀cs∈css,cs.length=k):css.flatten.length=css.length*k:=by
 induction css with
 | nil=>simp
 | cons c r ih =>
  rw [List.flatten_cons,List.length_append,ih (fun cs h=>hk cs (List.mem_cons_of_mem _ h)),hk c List.mem_cons_self,List.length_cons,Nat.succ_mul]
  omega
def CellsE (E:Enc α) (w:World) (D:Nat→Prop) (css:List (List Value)) (l:List α):Prop:=css.length=l.length∧∀(i:Nat) (cs:List Value) (x:α),css[i]?=some cs→l[i]?=some x→E.R w D cs x
theorem CellsE.lens {w:World} {D:Nat→Prop} {css:List (List Value)} {l:List α} (h:CellsE E w D css l):∀cs∈css,cs.length=E.k:=by
 intro cs hc
 obtain ⟨i,hi,rfl⟩:=List.mem_iff_getElem.1 hc
 have hl:i < l.length:=by have:=h.1;omega
 exact E.len (h.2 i _ l[i] (List.getElem?_eq_getElem hi) (List.getElem?_eq_getElem hl))
theorem CellsE.ones {w:World} {D:Nat→Prop} {css:List (List Value)} {l:List α} (h:CellsE E w D css l):∀v∈css.flatten,v.oneCell'=true:=by
 intro v hv
 obtain ⟨cs,hc,hv⟩:=List.mem_flatten.1 hv
 obtain ⟨i,hi,rfl⟩:=List.mem_iff_getElem.1 hc
 have hl:i < l.length:=by have:=h.1;omega
 exact E.one (h.2 i _ l[i] (List.getElem?_eq_getElem hi) (List.getElem?_eq_getElem hl)) v hv
theorem CellsE.mono {w w':World} {D D':Nat→Prop} {css:List (List Value)} {l:List α} (h:CellsE E w D css l) (hk:Kept D w w') (hD:∀b,D b→D' b):CellsE E w' D' css l:=⟨h.1,fun i cs x h1 h2=>E.mono (h.2 i cs x h1 h2) hk hD⟩
theorem CellsE.append {w:World} {D:Nat→Prop} {css dss:List (List Value)} {l r:List α} (h:CellsE E w D css l) (k:CellsE E w D dss r):CellsE E w D (css++dss) (l++r):=by
 refine ⟨by rw [List.length_append,List.length_append,h.1,k.1],fun i cs x h1 h2=>?_⟩
 rw [List.getElem?_append] at h1 h2
 rw [h.1] at h1
 split at h1
 ·rename_i hi
  rw [if_pos hi] at h2
  exact h.2 i cs x h1 h2
 ·rename_i hi
  rw [if_neg hi] at h2
  exact k.2 _ cs x h1 h2
def OwE [Tags] (E:Enc α) (w:World) (base e:Nat) (A:Option Addr) (n c:Nat) (l:List α):Prop:=∃css,w.ownsRow base e E.k (.slice A n c) n css.flatten∧CellsE E w (But w A) css l∧l.length=n
section
variable [Tags] {w w' : World} {base e n c : Nat} {A : Option Addr} {l : List α}
set_option linter.unusedSectionVars false
theorem OwE.len (h:OwE E w base e A n c l):l.length=n:=by obtain ⟨_,_,_,h⟩:=h;exact h
theorem But.under {b:Nat} (h:But w A b):Und w b:=h.1
theorem OwE.rd (h:OwE E w base e A n c l) (ht:Tags.bad e=false):RdE E w (Und w) A n l:=by
 obtain ⟨css,hown,hc,hl⟩:=h
 refine ⟨hl,fun hn=>?_⟩
 rcases hown.2 with ⟨_,h0⟩|⟨g,cap,cur,he,_,hg,_⟩
 ·omega
 ·simp only [Value.slice.injEq] at he
  obtain ⟨rfl,_,rfl⟩:=he
  refine ⟨g,0,rfl,?_,fun i x hx=>?_⟩
  ·exact Und.row hg ht
  ·have hi:=(List.getElem?_eq_some_iff.1 hx).1
   have hic:i < css.length:=by rw [hc.1];exact hi
   have hR:=hc.2 i _ x (List.getElem?_eq_getElem hic) hx
   refine ⟨_,E.mono hR (fun _ _=>rfl) (fun _ h=>h.under),fun j v hv=>?_⟩
   have hj:=(List.getElem?_eq_some_iff.1 hv).1
   rw [E.len hR] at hj
   have hfl:=flat_len hc.lens
   have hlt:i*E.k+j < n*E.k:=by
    have:(i+1)*E.k≤n*E.k:=Nat.mul_le_mul_right _ (by omega)
    rw [Nat.succ_mul] at this
    omega
   rw [Nat.zero_add]
   refine (World.ownsRow.cellAt (g:=g) hown (i*E.k+j) (by first|exact hlt|(rw [hfl,hc.1,hl];exact hlt))).trans ?_
   rw [flat_get hc.lens (List.getElem?_eq_getElem hic) hj]
   exact hv
theorem But.on {b:Nat} (h:But w A b) (hb:Below w.heap.size w w'):But w' A b:=⟨h.1.on hb,h.2⟩
theorem OwE.below (h:OwE E w base e A n c l) (hb:Below w.heap.size w w'):OwE E w' base e A n c l:=by
 obtain ⟨css,hown,hc,hl⟩:=h
 refine ⟨css,⟨hown.1,?_⟩,hc.mono (Kept.of_below hb fun _ h=>h.1.1) (fun _ h=>h.on hb),hl⟩
 rcases hown.2 with h0|⟨g,cap,cur,h1,h2,h3,h4⟩
 ·exact .inl h0
 ·refine .inr ⟨g,cap,cur,h1,h2,?_,h4⟩
  rw [hb.block g ?_]
  ·exact h3
  ·rcases Nat.lt_or_ge g w.heap.size with hlt|hge
   ·exact hlt
   ·rw [Array.getElem?_eq_none hge] at h3;cases h3
theorem OwE.alloc (h:OwE E w base e A n c l) (o:Obj):OwE E (w.alloc o) base e A n c l:=h.below ((Below.refl _ _).alloc (Nat.le_refl _) o)
theorem OwE.drewN (h:OwE E w base e A n c l) (k:Nat):OwE E (w.drewN k) base e A n c l:=h.below (below_drewN (below_self w) k)
theorem OwE.rebase {b':Nat} (h:OwE E w base e A n c l) (hb:b'≤base):OwE E w b' e A n c l:=by
 obtain ⟨css,hown,hc,hl⟩:=h
 refine ⟨css,⟨hown.1,?_⟩,hc,hl⟩
 rcases hown.2 with h0|⟨g,cap,cur,h1,h2,h3⟩
 ·exact .inl h0
 ·exact .inr ⟨g,cap,cur,h1,Nat.le_trans hb h2,h3⟩
theorem OwE.cap (h:OwE E w base e A n c l):n≤c:=by
 obtain ⟨css,hown,_,_⟩:=h
 rcases hown.2 with ⟨h0,h1⟩|⟨g,cap,cur,h1,_,_,h4,_⟩
 ·omega
 ·cases h1;exact h4
theorem OwE.nil_ (E:Enc α) (w:World) (base e:Nat):OwE E w base e none 0 0 []:=⟨[],World.ownsRow_nil _ _ _ _,⟨rfl,fun i cs x h=>by simp at h⟩,rfl⟩
theorem OwE.empty (E:Enc α) (w:World) (e:Nat):OwE E (w.alloc (.cells #[] e)) w.heap.size e (some ⟨w.heap.size,0,none⟩) 0 0 [] :=
 ⟨[],World.ownsRow_lit w #[] 0 (Nat.le_refl _) (by simp [maxLen]) (by simp),⟨rfl,fun i cs x h=>by simp at h⟩,rfl⟩
theorem RdE.one {D:Nat→Prop} {cs:List Value} {x:α} (t:TypeId) (h:E.R w D cs x) (hD:∀b,D b→b < w.heap.size):RdE E (w.alloc (.cells cs.toArray t)) (fun b=>D b∨b=w.heap.size) (some ⟨w.heap.size,0,none⟩) 1 [x]:=by
 refine ⟨rfl,fun _=>⟨_,_,rfl,.inr rfl,fun i y hy=>?_⟩⟩
 have hi:i=0:=by have:=(List.getElem?_eq_some_iff.1 hy).1;simpa using this
 subst hi
 obtain rfl:x=y:=by simpa using hy
 refine ⟨cs,E.mono h (Kept.of_below (B:=w.heap.size) ((Below.refl _ _).alloc (Nat.le_refl _) _) hD) (fun _ h=>.inl h),fun j v hv=>?_⟩
 rw [Nat.zero_mul,Nat.zero_add,Nat.zero_add,(RowL.new w t cs).cell]
 exact hv
end
theorem RdE.cells {w:World} {D:Nat→Prop} {n:Nat} {A:Option Addr} {l:List α} (h:RdE E w D A n l) (hn:0 < n):∃b o css,A=some ⟨b,o,none⟩∧D b∧CellsE E w D css l∧∀j v,css.flatten[j]?=some v→w.cell? ⟨b,o+j,none⟩=some v:=by
 obtain ⟨b,o,e,hlt,hc⟩:=h.2 hn
 have hx:∀i:Fin l.length,∃cs,E.R w D cs l[i]∧∀j v,cs[j]?=some v→w.cell? ⟨b,o+(i.val*E.k+j),none⟩=some v:=fun i=>hc i.val _ (List.getElem?_eq_getElem i.isLt)
 let css:List (List Value):=List.ofFn fun i=>Classical.choose (hx i)
 have hcss:∀i (hi:i < l.length),css[i]?=some (Classical.choose (hx ⟨i,hi⟩)):=fun i hi=>by simp [css,hi]
 have hCE:CellsE E w D css l:=by
  refine ⟨by simp [css],fun i cs x h1 h2=>?_⟩
  have hi:=(List.getElem?_eq_some_iff.1 h2).1
  rw [hcss i hi] at h1
  cases h1
  obtain rfl:l[i]=x:=by rw [List.getElem?_eq_getElem hi] at h2;exact Option.some.inj h2
  exact (Classical.choose_spec (hx ⟨i,hi⟩)).1
 refine ⟨b,o,css,e,hlt,hCE,fun j v hv=>?_⟩
 have hfl:=flat_len hCE.lens
 have hj:=(List.getElem?_eq_some_iff.1 hv).1
 have hk:0 < E.k:=by
  rcases Nat.eq_zero_or_pos E.k with h0|h0
  ·rw [hfl,h0] at hj;omega
  ·exact h0
 have hi:j / E.k < l.length:=by
  rw [hfl,hCE.1] at hj
  exact Nat.div_lt_of_lt_mul (by rw [Nat.mul_comm];exact hj)
 have e1:j / E.k*E.k+j % E.k=j:=by rw [Nat.mul_comm];exact Nat.div_add_mod j E.k
 have hm:=Nat.mod_lt j hk
 have hg:=flat_get hCE.lens (hcss _ hi) hm
 rw [e1] at hg
 rw [hg] at hv
 have:=(Classical.choose_spec (hx ⟨j / E.k,hi⟩)).2 _ v hv
 rwa [e1] at this

theorem append_where {P : Program} {w : World} {base : Nat} {t ty e : TypeId} {i : TypeInfo} {z : Value} {size k : Nat} (ht : P.underlying t = some (.slice e)) (hi : P.info? e = some i) (hz : i.zero = some z) (hsz : i.size = size) (hby : i.bytes = k)
  {v v':Value} {n:Nat} {xs:List Value} (hown:w.ownsRow base e size v n xs) {a:Addr} {m c:Nat} (hr:∃w',(Builtin.append_ #[t,t] ty #[v,.slice (some a) m c]).run P w=.ok v' w') {news:List Value} (hl:news.length=m*size)
  (hnews:∀j u,news[j]?=some u→w.cell? (a.add j)=some u) (h1:∀u∈news,u.oneCell'=true) (hbytes:(n+m)*k≤140737488355328) (hnm:n+m≤140737488355328) :
  v'.ownBlock=v.ownBlock∨∀b,v'.ownBlock=some b→w.heap.size≤b:=by
 obtain ⟨w',hr⟩:=hr
 subst hsz
 subst hby
 rcases hown.2 with ⟨rfl,rfl⟩|⟨g,cap,cur,rfl,hbg,hg,hnc,hcm,hcs,htake⟩
 ·by_cases hm:m=0
  ·subst hm
   have:news=[]:=List.eq_nil_of_length_eq_zero (by simpa using hl)
   have h2:(Builtin.append_ #[t,t] ty #[.slice none 0 0,.slice (some a) 0 c]).run P w=.ok (.slice none 0 0) w:=by
    simp [Builtin.append_,run_underlying ht,sizeOf,typeInfo,hi,Builtin.lenOf,Builtin.firstCells,loadCells,loadCellsFrom]
   rw [h2] at hr
   cases hr
   exact .inl rfl
  ·have h2:=run_append_nil (P:=P) w t ty e i z ht hi hz a m c news hl hnews (by omega) (by omega) (by have hb:=hbytes;simp only [Nat.zero_add] at hb;omega)
   rw [h2] at hr
   cases hr
   exact .inr fun b hb=>by simp [Value.ownBlock] at hb;omega
 ·by_cases hroom:n+m≤cap
  ·have hfit:n*i.size+news.length≤cur.size:=by rw [hl,hcs,←Nat.add_mul];exact Nat.mul_le_mul_right _ hroom
   have h2:=run_append_room (P:=P) w t ty e i ht hi g n cap cur hg a m c news hl hnews h1 hroom hfit
   rw [h2] at hr
   cases hr
   exact .inl rfl
  ·have holds:∀j u,xs[j]?=some u→w.cell? ((⟨g,0,none⟩:Addr).add j)=some u:=hown.cells (g:=g) rfl
   have h2:=run_append_grow (P:=P) w t ty e i z ht hi hz ⟨g,0,none⟩ n cap xs hown.1 holds a m c news hl hnews (by omega) (by omega) (growslice_fits (by omega) hbytes)
   rw [h2] at hr
   cases hr
   exact .inr fun b hb=>by simp [Value.ownBlock] at hb;omega

theorem run_append_E {P : Program} (w : World) (base : Nat) (t ty e : TypeId) (z : Value) (k : Nat) (ht : P.underlying t = some (.slice e)) (hinfo : (P.info? e).map (fun i => (i.zero, i.size, i.bytes)) = some (some z, E.k, k)) (hzs : z.cells.size = E.k) (hk : 0 < E.k)
  (v:Value) (n:Nat) (css:List (List Value)) (hown:w.ownsRow base e E.k v n css.flatten) (D:Nat→Prop) (A:Option Addr) (m c:Nat) (l1:List α) (hb:RdE E w D A m l1)
  (hbytes:(n+m)*k≤140737488355328) (hnm:n+m≤140737488355328) (hbase:base≤w.heap.size) :
  ∃v' w' dss,(Builtin.append_ #[t,t] ty #[v,.slice A m c]).run P w=.ok v' w'∧w'.ownsRow base e E.k v' (n+m) (css++dss).flatten∧CellsE E w D dss l1∧Below base w w'∧w.grownBy w' v.ownBlock∧(v'.ownBlock=v.ownBlock∨∀b,v'.ownBlock=some b→w.heap.size≤b):=by
 obtain ⟨i,hi,hz,hsz,hby⟩:=info_parts hinfo
 rcases Nat.eq_zero_or_pos m with hm|hm
 ·subst hm
  obtain rfl:l1=[]:=List.eq_nil_of_length_eq_zero hb.1
  cases A with
  | none=>exact ⟨v,w,[],run_append_nil0 w base t ty e i E.k ht hi v n _ hown c,by simpa using hown,⟨rfl,fun i cs x h=>by simp at h⟩,Below.refl _ _,⟨rfl,rfl,rfl,Nat.le_refl _,fun _ _ _=>rfl⟩,.inl rfl⟩
  | some ad =>
   obtain ⟨v',w',hr,h2,h3,_⟩:=run_append_own (P:=P) w base t ty e i z E.k k ht hi hz hsz hby hzs hk v n _ hown ad 0 c [] (by simp) (by simp) (by simp) (by simp only [maxLen];omega) hbytes hbase
   exact ⟨v',w',[],hr,by simpa using h2,⟨rfl,fun i cs x h=>by simp at h⟩,Below.of_grown_own hown h3 hbase,h3,append_where ht hi hz hsz hby hown ⟨_,hr⟩ (news:=[]) (by simp) (by simp) (by simp) hbytes hnm⟩
 ·obtain ⟨b,o,dss,rfl,_,hC,hcell⟩:=hb.cells hm
  have hfl:=flat_len hC.lens
  obtain ⟨v',w',hr,h2,h3,_⟩:=run_append_own (P:=P) w base t ty e i z E.k k ht hi hz hsz hby hzs hk v n _ hown ⟨b,o,none⟩ m c dss.flatten (by rw [hfl,hC.1,hb.1]) (fun j u hu=>by
   have:=hcell j u hu
   rw [←this]
   congr 1
   unfold Addr.add
   split
   ·rename_i h0;subst h0;rfl
   ·rfl) hC.ones (by simp only [maxLen];omega) hbytes hbase
  exact ⟨v',w',dss,hr,by rw [List.flatten_append];exact h2,hC,Below.of_grown_own hown h3 hbase,h3,append_where ht hi hz hsz hby hown ⟨_,hr⟩ (news:=dss.flatten) (by rw [hfl,hC.1,hb.1]) (fun j u hu=>by
   have:=hcell j u hu
   rw [←this]
   congr 1
   unfold Addr.add
   split
   ·rename_i h0;subst h0;rfl
   ·rfl) hC.ones hbytes hnm⟩
theorem run_append_OwE [Tags] {P : Program} (w : World) (base : Nat) (t ty e : TypeId) (z : Value) (k : Nat) (ht : P.underlying t = some (.slice e)) (hinfo : (P.info? e).map (fun i => (i.zero, i.size, i.bytes)) = some (some z, E.k, k)) (hzs : z.cells.size = E.k) (hk : 0 < E.k)
  (A0:Option Addr) (n c0:Nat) (l0:List α) (hown:OwE E w base e A0 n c0 l0) (D:Nat→Prop) (A:Option Addr) (m c:Nat) (l1:List α) (hb:RdE E w D A m l1) (hD:∀b,D b→But w A0 b)
  (hbytes:(n+m)*k≤140737488355328) (hnm:n+m≤140737488355328) (hbase:base≤w.heap.size) :
  ∃A' c' w',(Builtin.append_ #[t,t] ty #[.slice A0 n c0,.slice A m c]).run P w=.ok (.slice A' (n+m) c') w'∧OwE E w' base e A' (n+m) c' (l0++l1)∧Below base w w':=by
 obtain ⟨css,hrow,hc,hl⟩:=hown
 obtain ⟨v',w',dss,hr,h2,h3,h4,h5,h6⟩:=run_append_E (P:=P) w base t ty e z k ht hinfo hzs hk _ n css hrow D A m c l1 hb hbytes hnm hbase
 have hv:∃A' c',v'=.slice A' (n+m) c':=by
  rcases h2.2 with ⟨rfl,h0⟩|⟨g,cap,cur,rfl,_⟩
  ·exact ⟨none,0,by rw [h0]⟩
  ·exact ⟨_,_,rfl⟩
 obtain ⟨A',c',rfl⟩:=hv
 have hkept:Kept (But w A0) w w':=by
  intro b hb
  refine h5.block b hb.1.1 ?_
  intro e
  cases A0 with
  | none=>simp [Value.ownBlock] at e
  | some a =>
   have:b=a.block:=by simpa [Value.ownBlock] using e
   exact hb.2 a rfl this
 refine ⟨A',c',w',hr,⟨css++dss,h2,?_,by rw [List.length_append,hl,hb.1]⟩,h4⟩
 have hnew:∀b,But w A0 b→But w' A' b:=by
  intro b hb
  refine ⟨hb.1.eq h4.size (hkept b hb),fun a ha=>?_⟩
  subst ha
  intro e
  rcases h6 with h6|h6
  ·cases A0 with
   | none=>simp [Value.ownBlock] at h6
   | some a0 =>
    have e2:a.block=a0.block:=by simpa [Value.ownBlock] using h6
    exact hb.2 a0 rfl (e.trans e2)
  ·have:=h6 a.block rfl
   have:=hb.1.1
   omega
 exact (hc.mono hkept hnew).append ((h3.mono (fun b hb=>hkept b (hD b hb)) (fun b hb=>hnew b (hD b hb))))
end Go.Proofs.YtpndfahgflgocaaGreatDoor

namespace Go.Proofs.YtpndfahgflgocaaGreatDoor
open Go.RowKit
variable {α β : Type} {E : Enc α}

theorem wp_append_OwE [Tags] {P : Program} (w : World) {o : Oper} {a : Act} {K : Act → World → Prop} {Q : Exit → Act → World → Prop} (s x : Operand) (t : TypeId)
  (ho:o.op=.call {callee:=.builtin .append,args:=#[s,x],argTypes:=#[t,t]})
  (base:Nat) (e:TypeId) (z:Value) (k:Nat) (ht:P.underlying t=some (.slice e)) (hinfo:(P.info? e).map (fun i=>(i.zero,i.size,i.bytes))=some (some z,E.k,k)) (hzs:z.cells.size=E.k) (hk:0 < E.k)
  (A0:Option Addr) (n c0:Nat) (l0:List α) (hs:a.eval s=.slice A0 n c0) (hown:OwE E w base e A0 n c0 l0) (D:Nat→Prop) (A:Option Addr) (m c:Nat) (l1:List α) (hx:a.eval x=.slice A m c) (hb:RdE E w D A m l1) (hD:∀b,D b→But w A0 b)
  (N:Nat) (hN:n+m=N) (hbytes:N*k≤140737488355328) (hnm:N≤140737488355328) (hbase:base≤w.heap.size)
  (h:∀A' c' w',OwE E w' base e A' N c' (l0++l1)→Below base w w'→K (a.put o.dst (.slice A' N c')) w'):o.wp P a w K Q:=by
 subst hN
 obtain ⟨A',c',w',hr,h2,h3⟩:=run_append_OwE (P:=P) w base t o.type e z k ht hinfo hzs hk A0 n c0 l0 hown D A m c l1 hb hD hbytes hnm hbase
 unfold Oper.wp execOp
 simp only [ho,resolve,invoke,builtin,Sem.run_bind,Sem.run_pure,Result.andThen_ok,List.map_toArray,List.map_cons,List.map_nil,hs,hx,hr]
 exact h A' c' w' h2 h3
theorem wpList_append_OwE [Tags] {P : Program} (w : World) {ops : Array Oper} {rest : List Oper} {o : Oper} {a : Act} {Q : Exit → Act → World → Prop} (hgd : o.guard = none) (s x : Operand) (t : TypeId)
  (ho:o.op=.call {callee:=.builtin .append,args:=#[s,x],argTypes:=#[t,t]})
  (base:Nat) (e:TypeId) (z:Value) (k:Nat) (ht:P.underlying t=some (.slice e)) (hinfo:(P.info? e).map (fun i=>(i.zero,i.size,i.bytes))=some (some z,E.k,k)) (hzs:z.cells.size=E.k) (hk:0 < E.k)
  (A0:Option Addr) (n c0:Nat) (l0:List α) (hs:a.eval s=.slice A0 n c0) (hown:OwE E w base e A0 n c0 l0) (D:Nat→Prop) (A:Option Addr) (m c:Nat) (l1:List α) (hx:a.eval x=.slice A m c) (hb:RdE E w D A m l1) (hD:∀b,D b→But w A0 b)
  (N:Nat) (hN:n+m=N) (hbytes:N*k≤140737488355328) (hnm:N≤140737488355328) (hbase:base≤w.heap.size)
  (h:∀A' c' w',OwE E w' base e A' N c' (l0++l1)→Below base w w'→wpList P ops Q rest (a.put o.dst (.slice A' N c')) w'):wpList P ops Q (o::rest) a w :=
 wpList_plain hgd fun _ hK=>wp_append_OwE w s x t ho base e z k ht hinfo hzs hk A0 n c0 l0 hs hown D A m c l1 hx hb hD N hN hbytes hnm hbase (fun A' c' w' h1 h2=>hK _ _ (h A' c' w' h1 h2))

theorem flat_set {css:List (List Value)} (hk:∀cs∈css,cs.length=1) (p:Nat) (u:Value) (hp:p < css.length):css.flatten.set p u=(css.set p [u]).flatten:=by
 induction css generalizing p with
 | nil=>simp at hp
 | cons c r ih =>
  have hc:c.length=1:=hk c List.mem_cons_self
  obtain ⟨x,rfl⟩:∃x,c=[x]:=by match c,hc with|[x],_=>exact ⟨x,rfl⟩
  cases p with
  | zero=>rfl
  | succ p =>
   simp only [List.set_cons_succ,List.flatten_cons,List.singleton_append]
   rw [ih (fun cs h=>hk cs (List.mem_cons_of_mem _ h)) p (by simpa using hp)]
theorem OwE.store [Tags] {w:World} {base e n c g p:Nat} {l:List α} {u:Value} {x:α} {D:Nat→Prop} (h:OwE E w base e (some ⟨g,0,none⟩) n c l) (hk:E.k=1) (hp:p < n) (hR:E.R w D [u] x) (hD:∀b,D b→But w (some ⟨g,0,none⟩) b) :
  OwE E (w.setCell ⟨g,p,none⟩ u) base e (some ⟨g,0,none⟩) n c (l.set p x):=by
 obtain ⟨css,hown,hc,hl⟩:=h
 have hlens:∀cs∈css,cs.length=1:=fun cs hcs=>(hc.lens cs hcs).trans hk
 have hpc:p < css.length:=by rw [hc.1,hl];exact hp
 have hsz:(w.setCell ⟨g,p,none⟩ u).heap.size=w.heap.size:=by simp [World.setCell]
 have hkept:Kept (But w (some ⟨g,0,none⟩)) w (w.setCell ⟨g,p,none⟩ u):=fun b hb=>Below.heap_setCell w ⟨g,p,none⟩ u b (fun e=>hb.2 _ rfl e)
 have hbut:∀b,But w (some ⟨g,0,none⟩) b→But (w.setCell ⟨g,p,none⟩ u) (some ⟨g,0,none⟩) b:=fun b hb=>⟨hb.1.eq (by rw [hsz];exact Nat.le_refl _) (hkept b hb),hb.2⟩
 refine ⟨css.set p [u],?_,⟨by rw [List.length_set,List.length_set];exact hc.1,fun i cs y h1 h2=>?_⟩,by rw [List.length_set];exact hl⟩
 ·rw [←flat_set hlens p u hpc]
  rw [hk] at hown ⊢
  exact (World.ownsRow.stored hown p u).1
 ·by_cases hi:p=i
  ·subst hi
   rw [List.getElem?_set_self hpc] at h1
   rw [List.getElem?_set_self (by rw [hl];exact hp)] at h2
   cases h1
   cases h2
   exact E.mono hR (fun b hb=>hkept b (hD b hb)) (fun b hb=>hbut b (hD b hb))
  ·rw [List.getElem?_set_ne hi] at h1 h2
   exact E.mono (hc.2 i cs y h1 h2) hkept hbut
theorem OwE.at_ [Tags] {w:World} {base e n c:Nat} {A:Option Addr} {l:List α} (h:OwE E w base e A n c l) (hn:0 < n):∃g,A=some ⟨g,0,none⟩∧base≤g∧g < w.heap.size∧∀i,w.frozen? ⟨g,i,none⟩=false:=by
 obtain ⟨css,hown,_,_⟩:=h
 rcases hown.2 with ⟨_,h1⟩|⟨g,cap,cur,h1,h2,h3,h4⟩
 ·omega
 ·cases h1
  refine ⟨_,rfl,h2,?_,fun i=>frozen_of_row w _ i _ e h3⟩
  rcases Nat.lt_or_ge g w.heap.size with hlt|hge
  ·exact hlt
  ·rw [Array.getElem?_eq_none hge] at h3;cases h3

theorem RdE.get_list {F:Enc β} {w:World} {D:Nat→Prop} {A:Option Addr} {n:Nat} {l:List (List β)} (h:RdE (Enc.list F) w D A n l) {i:Nat} {x:List β} (hx:l[i]?=some x) :
  ∃b o,A=some ⟨b,o,none⟩∧D b∧∃A1 n1 c1,w.cell? ⟨b,o+i,none⟩=some (.slice A1 n1 c1)∧n1≤c1∧RdE F w D A1 n1 x:=by
 have hi:=(List.getElem?_eq_some_iff.1 hx).1
 obtain ⟨b,o,e,hb,hc⟩:=h.2 (by have:=h.1;omega)
 obtain ⟨cs,⟨A1,n1,c1,hcs,hle,hr⟩,hcell⟩:=hc i x hx
 refine ⟨b,o,e,hb,A1,n1,c1,?_,hle,hr⟩
 have:=hcell 0 (.slice A1 n1 c1) (by rw [hcs];rfl)
 rwa [show i*(Enc.list F).k+0=i from by show i*1+0=i;omega] at this
end Go.Proofs.YtpndfahgflgocaaGreatDoor

namespace Go.Proofs.YtpndfahgflgocaaGreatDoor
open Go.RowKit Plain

structure EntV where
 (slot ino:Int)
 name:List UInt8
 deriving DecidableEq
def ent0:EntV:=⟨0,0,[]⟩
def entEn:Enc EntV:=(Enc.pair Enc.int (Enc.pair Enc.int Enc.text)).as (fun x=>(x.slot,x.ino,x.name))
theorem ent_cells {w:World} {D:Nat→Prop} {cs:List Value} {x:EntV} (h:entEn.R w D cs x):cs=[.int .i64 x.slot,.int .i64 x.ino,.string ⟨x.name.toArray⟩]:=by
 obtain ⟨c1,c2,rfl,h1,c3,c4,rfl,h2,h3⟩:=h
 have e1:c1=[.int .i64 x.slot]:=h1
 have e2:c3=[.int .i64 x.ino]:=h2
 have e3:c4=[.string ⟨x.name.toArray⟩]:=h3
 rw [e1,e2,e3]
 rfl
theorem ent_get {w:World} {D:Nat→Prop} {A:Option Addr} {n k:Nat} {l:List EntV} {x:EntV} (h:RdE entEn w D A n l) (hx:l[k]?=some x) :
  ∃b o,A=some ⟨b,o,none⟩∧D b∧∀j v,[Value.int .i64 x.slot,.int .i64 x.ino,.string ⟨x.name.toArray⟩][j]?=some v→w.cell? ⟨b,o+k*3+j,none⟩=some v:=by
 have hk:=(List.getElem?_eq_some_iff.1 hx).1
 obtain ⟨b,o,e,hb,hc⟩:=h.2 (by rw [←h.1];omega)
 obtain ⟨cs,hR,hcs⟩:=hc k x hx
 have e2:=ent_cells hR
 subst e2
 refine ⟨b,o,e,hb,fun j v hv=>?_⟩
 have:=hcs j v hv
 rw [Nat.add_assoc]
 exact this
def cellsE (x:EntV):List Value:=[.int .i64 x.slot,.int .i64 x.ino,.string ⟨x.name.toArray⟩]
def flatE (l:List EntV):List Value:=l.flatMap cellsE
end Go.Proofs.YtpndfahgflgocaaGreatDoor

namespace Go.Proofs.YtpndfahgflgocaaGreatDoor
open Go.RowKit Plain

structure AttV where
 (h o:Int)
 r:List UInt8
 (l i g s:Int)
 deriving DecidableEq
def att0:AttV:=⟨0,0,[],0,0,0,0⟩
end Go.Proofs.YtpndfahgflgocaaGreatDoor

namespace Go.Proofs.YtpndfahgflgocaaGreatDoor
open Go.RowKit Plain

structure NodV where
 (k p n g:Int)
 data:List UInt8
 ents:List EntV
 att:AttV
 deriving DecidableEq
def nod0:NodV:=⟨0,0,0,0,[],[],att0⟩
def nodAt (ns:List NodV) (i:Int):NodV:=if 1≤i∧i≤(ns.length:Int) then (ns[(i - 1).toNat]?).getD nod0 else nod0
def isDir (ns:List NodV) (i:Int):Bool:=decide ((nodAt ns i).k=1)
structure WayV where
 (ino up:Int)
 name:List UInt8
 deriving DecidableEq
abbrev StW:=List WayV×List (Int×Nat)
def cameW (l:List WayV) (i:Int):Bool:=l.any (fun x=>x.ino==i)
def oneW (dir:Int) (p:Nat) (s:StW) (x:EntV×Nat):StW :=
 if cameW s.1 x.1.ino then (s.1,s.2++[(dir,x.2)]) else (s.1++[⟨x.1.ino,p,x.1.name⟩],s.2)
def dirsOf (ns:List NodV) (l:List EntV):List (EntV×Nat):=l.zipIdx.filter (fun x=>isDir ns x.1.ino)
def visitW (ns:List NodV) (p:Nat) (s:StW):StW:=match s.1[p]? with
 | none=>s
 | some y=>(dirsOf ns (nodAt ns y.ino).ents).foldl (oneW y.ino p) s
def runW (ns : List NodV) : Nat → Nat → StW → StW
 | 0,_,s=>s
 | f+1,p,s=>if p < s.1.length then runW ns f (p+1) (visitW ns p s) else s
def rootW (ns:List NodV) (s:StW) (i:Int):StW:=if isDir ns i&&!cameW s.1 i then runW ns (ns.length - s.1.length) s.1.length (s.1++[⟨i,-1,[]⟩],s.2) else s
def walkW (ns:List NodV) (ff:List Int):StW:=ff.foldl (rootW ns) ([],[])

theorem isDir_in {ns:List NodV} {i:Int} (h:isDir ns i=true):1≤i∧i≤(ns.length:Int):=by
 unfold isDir nodAt at h
 split at h
 ·assumption
 ·simp [nod0] at h
theorem came_iff {l:List WayV} {i:Int}:cameW l i=true↔∃x∈l,x.ino=i:=by simp [cameW]
theorem came_not {l:List WayV} {i:Int} (h:cameW l i=false):∀x∈l,x.ino≠i:=by
 intro x hx e
 have:=(came_iff (l:=l) (i:=i)).2 ⟨x,hx,e⟩
 rw [h] at this
 cases this

def OkW (ns:List NodV) (l:List WayV):Prop:=(∀x∈l,isDir ns x.ino=true)∧(l.map WayV.ino).Nodup
theorem OkW.nil_ (ns:List NodV):OkW ns []:=⟨fun _ h=>(by cases h),List.nodup_nil⟩
theorem OkW.snoc {ns:List NodV} {l:List WayV} {x:WayV} (h:OkW ns l) (hd:isDir ns x.ino=true) (hc:cameW l x.ino=false):OkW ns (l++[x]):=by
 refine ⟨fun y hy=>?_,?_⟩
 ·rcases List.mem_append.1 hy with h1|h1
  ·exact h.1 y h1
  ·rw [List.mem_singleton] at h1;rw [h1];exact hd
 ·rw [List.map_append,List.nodup_append]
  refine ⟨h.2,by simp,?_⟩
  intro a ha b hb e
  simp at hb
  subst hb
  obtain ⟨y,hy,rfl⟩:=List.mem_map.1 ha
  exact came_not hc y hy e
theorem nodup_le:∀(n:Nat) (l:List Int),l.Nodup→(∀x∈l,1≤x∧x≤(n:Int))→l.length≤n:=by
 intro n
 induction n with
 | zero =>
  intro l _ h
  cases l with
  | nil=>exact Nat.le_refl _
  | cons x r=>have:=h x List.mem_cons_self;omega
 | succ n ih =>
  intro l hn h
  have h1:(l.erase ((n:Int)+1)).length≤n:=by
   refine ih _ (hn.erase _) fun x hx=>?_
   have h2:=(List.Nodup.mem_erase_iff hn).1 hx
   have h3:=h x h2.2
   have:=h2.1
   omega
  have h2:l.length≤(l.erase ((n:Int)+1)).length+1:=by
   rw [List.length_erase]
   split <;> omega
  omega
theorem OkW.le {ns:List NodV} {l:List WayV} (h:OkW ns l):l.length≤ns.length:=by
 have:=nodup_le ns.length (l.map WayV.ino) h.2 (fun x hx=>by
  obtain ⟨y,hy,rfl⟩:=List.mem_map.1 hx
  exact isDir_in (h.1 y hy))
 simpa using this
theorem OkW.lt {ns:List NodV} {l:List WayV} {i:Int} (h:OkW ns l) (hd:isDir ns i=true) (hc:cameW l i=false):l.length < ns.length:=by
 have:=(h.snoc (x:=⟨i,0,[]⟩) hd hc).le
 simp at this
 omega
theorem dirsOf_dir {ns:List NodV} {l:List EntV}:∀x∈dirsOf ns l,isDir ns x.1.ino=true:=fun _ hx=>(List.mem_filter.1 hx).2

theorem foldl_keep {α β:Type} {f:β→α→β} {P:β→Prop} (l:List α) (s:β) (hs:P s) (h:∀s x,x∈l→P s→P (f s x)):P (l.foldl f s):=by
 induction l generalizing s with
 | nil=>exact hs
 | cons x r ih=>exact ih _ (h s x List.mem_cons_self hs) (fun s y hy=>h s y (List.mem_cons_of_mem _ hy))
theorem one_ok {ns:List NodV} {dir:Int} {p:Nat} {s:StW} {x:EntV×Nat} (h:OkW ns s.1) (hd:isDir ns x.1.ino=true):OkW ns (oneW dir p s x).1:=by
 unfold oneW
 cases hc:cameW s.1 x.1.ino with
 | true=>simpa using h
 | false=>simpa using h.snoc (x:=⟨x.1.ino,p,x.1.name⟩) hd hc
theorem one_pre {dir:Int} {p:Nat} {s:StW} {x:EntV×Nat}:s.1 <+: (oneW dir p s x).1:=by
 unfold oneW
 split
 ·exact List.prefix_refl _
 ·exact List.prefix_append _ _
theorem visit_ok {ns:List NodV} {p:Nat} {s:StW} (h:OkW ns s.1):OkW ns (visitW ns p s).1:=by
 unfold visitW
 split
 ·exact h
 ·exact foldl_keep (P:=fun s:StW=>OkW ns s.1) _ _ h (fun _ x hx hs=>one_ok hs (dirsOf_dir x hx))
theorem visit_pre {ns:List NodV} {p:Nat} {s:StW}:s.1 <+: (visitW ns p s).1:=by
 unfold visitW
 split
 ·exact List.prefix_refl _
 ·exact foldl_keep (P:=fun t:StW=>s.1 <+: t.1) _ _ (List.prefix_refl _) (fun _ _ _ hs=>hs.trans one_pre)
theorem run_ok {ns : List NodV} : ∀ (f p : Nat) (s : StW), OkW ns s.1 → OkW ns (runW ns f p s).1
 | 0,_,_,h=>h
 | f+1,p,s,h=>by
  unfold runW
  split
  ·exact run_ok f _ _ (visit_ok h)
  ·exact h
theorem run_pre {ns : List NodV} : ∀ (f p : Nat) (s : StW), s.1 <+: (runW ns f p s).1
 | 0,_,_=>List.prefix_refl _
 | f+1,p,s=>by
  unfold runW
  split
  ·exact visit_pre.trans (run_pre f _ _)
  ·exact List.prefix_refl _
theorem root_ok {ns:List NodV} {s:StW} {i:Int} (h:OkW ns s.1):OkW ns (rootW ns s i).1:=by
 unfold rootW
 split
 ·rename_i hc
  rw [Bool.and_eq_true,Bool.not_eq_true'] at hc
  exact run_ok _ _ _ (h.snoc (x:=⟨i,-1,[]⟩) hc.1 hc.2)
 ·exact h
theorem walk_ok (ns:List NodV) (ff:List Int):OkW ns (walkW ns ff).1:=foldl_keep (P:=fun s:StW=>OkW ns s.1) _ _ (OkW.nil_ ns) (fun _ _ _ hs=>root_ok hs)
theorem walk_snoc (ns:List NodV) (ff:List Int) (i:Int):walkW ns (ff++[i])=rootW ns (walkW ns ff) i:=by simp [walkW]

theorem one_tw {dir:Int} {p:Nat} {s:StW} {x:EntV×Nat}:(oneW dir p s x).2.length≤s.2.length+1:=by
 unfold oneW
 split <;> simp
theorem fold_tw (dir : Int) (p : Nat) : ∀ (l : List (EntV × Nat)) (s : StW), (l.foldl (oneW dir p) s).2.length ≤ s.2.length + l.length
 | [],s=>by simp
 | x::r,s=>by
  have h1:=fold_tw dir p r (oneW dir p s x)
  have h2:=one_tw (dir:=dir) (p:=p) (s:=s) (x:=x)
  simp only [List.foldl_cons,List.length_cons]
  omega
def Many (ns:List NodV):Prop:=ns.length≤24∧∀x∈ns,x.ents.length≤16
theorem nodAt_ents {ns:List NodV} (h:Many ns) (i:Int):(nodAt ns i).ents.length≤16:=by
 unfold nodAt
 split
 ·cases hx:ns[(i - 1).toNat]? with
  | none=>simp [nod0]
  | some x=>simpa using h.2 x (List.mem_of_getElem? hx)
 ·simp [nod0]
theorem dirsOf_len (ns:List NodV) (l:List EntV):(dirsOf ns l).length≤l.length:=by
 unfold dirsOf
 exact Nat.le_trans (List.length_filter_le _ _) (by simp)
theorem visit_tw {ns:List NodV} (h:Many ns) (p:Nat) (s:StW):(visitW ns p s).2.length≤s.2.length+16:=by
 unfold visitW
 split
 ·omega
 ·rename_i y _
  have h1:=fold_tw y.ino p (dirsOf ns (nodAt ns y.ino).ents) s
  have h2:=dirsOf_len ns (nodAt ns y.ino).ents
  have h3:=nodAt_ents h y.ino
  omega
end Go.Proofs.YtpndfahgflgocaaGreatDoor

