import Derived.Test.YtpndfahgflgocaaGreatDoorXt1

namespace Go.Proofs.YtpndfahgflgocaaGreatDoor
open Go.RowKit

def Kept (D:Nat→Prop) (w w':World):Prop:=∀b,D b→w'.heap[b]?=w.heap[b]?
theorem Kept.cell {D:Nat→Prop} {w w':World} (h:Kept D w w') {b o:Nat} (hb:D b):w'.cell? ⟨b,o,none⟩=w.cell? ⟨b,o,none⟩:=by
 simp only [World.cell?,h b hb]
theorem Kept.of_below {D:Nat→Prop} {B:Nat} {w w':World} (h:Below B w w') (hD:∀b,D b→b < B):Kept D w w':=fun b hb=>h.block b (hD b hb)
def Under (B:Nat) (b:Nat):Prop:=b < B
class Tags where
 bad:TypeId→Bool
instance (priority:=low) Tags.none:Tags:=⟨fun _=>false⟩
def Und [Tags] (w:World) (b:Nat):Prop:=b < w.heap.size∧∀arr t fr,w.heap[b]?=some (.cells arr t fr)→Tags.bad t=false
theorem Und.eq [Tags] {w w':World} {b:Nat} (h:Und w b) (hs:w.heap.size≤w'.heap.size) (he:w'.heap[b]?=w.heap[b]?):Und w' b:=⟨Nat.lt_of_lt_of_le h.1 hs,fun arr t fr ht=>h.2 arr t fr (he.symm.trans ht)⟩
theorem Und.on [Tags] {w w':World} {b:Nat} (h:Und w b) (hb:Below w.heap.size w w'):Und w' b:=h.eq hb.size (hb.block b h.1)
theorem Und.row [Tags] {w:World} {b:Nat} {arr:Array Value} {t:TypeId} {fr:Nat×Nat} (h:w.heap[b]?=some (.cells arr t fr)) (ht:Tags.bad t=false):Und w b:=by
 refine ⟨?_,fun arr' t' fr' h'=>?_⟩
 ·rcases Nat.lt_or_ge b w.heap.size with hlt|hge
  ·exact hlt
  ·rw [Array.getElem?_eq_none hge] at h;cases h
 ·have e:=Option.some.inj (h.symm.trans h')
  injection e with _ e _
  rw [←e]
  exact ht
theorem Und.under [Tags] {w:World} {b:Nat} (h:Und w b):Under w.heap.size b:=h.1
def But [Tags] (w:World) (A:Option Addr) (b:Nat):Prop:=Und w b∧∀a,A=some a→b≠a.block

structure Enc (α : Type) where
 k:Nat
 R:World→(Nat→Prop)→List Value→α→Prop
 len:∀ {w:World} {D:Nat→Prop} {cs:List Value} {x:α},R w D cs x→cs.length=k
 one:∀ {w:World} {D:Nat→Prop} {cs:List Value} {x:α},R w D cs x→∀v∈cs,v.oneCell'=true
 mono:∀ {w w':World} {D D':Nat→Prop} {cs:List Value} {x:α},R w D cs x→Kept D w w'→(∀b,D b→D' b)→R w' D' cs x

variable {α β : Type} {E : Enc α}

def RdE (E:Enc α) (w:World) (D:Nat→Prop) (A:Option Addr) (n:Nat) (l:List α):Prop :=
 l.length=n∧(0 < n→∃b o,A=some ⟨b,o,none⟩∧D b∧∀i x,l[i]?=some x→∃cs,E.R w D cs x∧∀j v,cs[j]?=some v→w.cell? ⟨b,o+(i*E.k+j),none⟩=some v)
theorem RdE.none_ (E:Enc α) (w:World) (D:Nat→Prop) (A:Option Addr):RdE E w D A 0 []:=⟨rfl,fun h=>absurd h (by omega)⟩
section
variable {w w' : World} {D D' : Nat → Prop} {n : Nat} {A : Option Addr} {l : List α}
theorem RdE.len (h:RdE E w D A n l):l.length=n:=h.1
theorem RdE.mono (h:RdE E w D A n l) (hk:Kept D w w') (hD:∀b,D b→D' b):RdE E w' D' A n l:=⟨h.1,fun hn=>by
 obtain ⟨b,o,e,hb,hc⟩:=h.2 hn
 refine ⟨b,o,e,hD b hb,fun i x hx=>?_⟩
 obtain ⟨cs,hR,hcs⟩:=hc i x hx
 exact ⟨cs,E.mono hR hk hD,fun j v hv=>(hk.cell hb).trans (hcs j v hv)⟩⟩
theorem RdE.plain [Tags] (h:RdE E w (Und w) A n l):RdE E w (Under w.heap.size) A n l:=h.mono (fun _ _=>rfl) fun _ h=>h.1
theorem RdE.on (h:RdE E w (Under w.heap.size) A n l) (hb:Below w.heap.size w w'):RdE E w' (Under w'.heap.size) A n l :=
 h.mono (Kept.of_below hb fun _ h=>h) fun b h=>by have:=hb.size;unfold Under at h ⊢;omega
theorem RdE.pre {i:Nat} (h:RdE E w D A n l) (hi:i≤n):RdE E w D A i (l.take i):=by
 refine ⟨by have:=h.1;simp;omega,fun hn=>?_⟩
 obtain ⟨b,o,e,hb,hc⟩:=h.2 (by omega)
 refine ⟨b,o,e,hb,fun j x hx=>hc j x ?_⟩
 rw [List.getElem?_take] at hx
 split at hx
 ·exact hx
 ·cases hx
end

def Enc.val (f : α → Value) (h1 : ∀ x, (f x).oneCell' = true) : Enc α where
 k:=1
 R:=fun _ _ cs x=>cs=[f x]
 len:=fun h=>by rw [h];rfl
 one:=fun h v hv=>by rw [h,List.mem_singleton] at hv;rw [hv];exact h1 _
 mono:=fun h _ _=>h
def Enc.int:Enc Int:=Enc.val (fun x=>.int .i64 x) (fun _=>rfl)
def Enc.bool:Enc Bool:=Enc.val (fun x=>.bool x) (fun _=>rfl)
def Enc.byte:Enc UInt8:=Enc.val bv (fun _=>rfl)
def Enc.text:Enc (List UInt8):=Enc.val (fun x=>.string ⟨x.toArray⟩) (fun _=>rfl)
def Enc.list (E : Enc α) : Enc (List α) where
 k:=1
 R:=fun w D cs x=>∃A n c,cs=[.slice A n c]∧n≤c∧RdE E w D A n x
 len:=fun ⟨_,_,_,h,_⟩=>by rw [h];rfl
 one:=fun ⟨_,_,_,h,_⟩ v hv=>by rw [h,List.mem_singleton] at hv;rw [hv];rfl
 mono:=fun ⟨A,n,c,h,hc,hr⟩ hk hD=>⟨A,n,c,h,hc,hr.mono hk hD⟩
def Enc.bytes:Enc (List UInt8):=Enc.list Enc.byte
def Enc.pair (E : Enc α) (F : Enc β) : Enc (α × β) where
 k:=E.k+F.k
 R:=fun w D cs x=>∃c1 c2,cs=c1++c2∧E.R w D c1 x.1∧F.R w D c2 x.2
 len:=fun ⟨c1,c2,h,h1,h2⟩=>by rw [h,List.length_append,E.len h1,F.len h2]
 one:=fun ⟨c1,c2,h,h1,h2⟩ v hv=>by
  rw [h,List.mem_append] at hv
  rcases hv with hv|hv
  ·exact E.one h1 v hv
  ·exact F.one h2 v hv
 mono:=fun ⟨c1,c2,h,h1,h2⟩ hk hD=>⟨c1,c2,h,E.mono h1 hk hD,F.mono h2 hk hD⟩
def Enc.as (E : Enc α) (g : β → α) : Enc β where
 k:=E.k
 R:=fun w D cs x=>E.R w D cs (g x)
 len:=E.len
 one:=E.one
 mono:=E.mono
theorem Bs.of_rd {w:World} {B n:Nat} {A:Option Addr} {l:List UInt8} (h:RdE Enc.byte w (Under B) A n l):Bs w B A n l:=⟨h.1,fun hn=>by
 obtain ⟨b,o,e,hb,hc⟩:=h.2 hn
 refine ⟨b,o,e,hb,fun i x hx=>?_⟩
 obtain ⟨cs,hR,hcs⟩:=hc i x hx
 obtain rfl:cs=[bv x]:=hR
 have:=hcs 0 (bv x) rfl
 rwa [show i*Enc.byte.k+0=i from by show i*1+0=i;omega] at this⟩
theorem RdE.of_bs {w:World} {D:Nat→Prop} {B n:Nat} {A:Option Addr} {l:List UInt8} (h:Bs w B A n l) (hD:0 < n→∀a,A=some a→D a.block):RdE Enc.byte w D A n l:=⟨h.1,fun hn=>by
 obtain ⟨b,o,e,hb,hc⟩:=h.2 hn
 refine ⟨b,o,e,hD hn _ e,fun i x hx=>⟨[bv x],rfl,fun j v hv=>?_⟩⟩
 have hj:j=0:=by have:=(List.getElem?_eq_some_iff.1 hv).1;simpa using this
 subst hj
 obtain rfl:bv x=v:=by simpa using hv
 rw [show i*Enc.byte.k+0=i from by show i*1+0=i;omega]
 exact hc i x hx⟩

theorem flat_get {k:Nat} {css:List (List Value)} (hk:∀cs∈css,cs.length=k):∀ {i j:Nat} {cs:List Value},css[i]?=some cs→j < k→css.flatten[i*k+j]?=cs[j]?:=by
 induction css with
 | nil=>intro i j cs h;simp at h
 | cons c0 r ih =>
  intro i j cs h hj
  have h0:c0.length=k:=hk c0 List.mem_cons_self
  cases i with
  | zero =>
   simp at h
   subst h
   rw [List.flatten_cons,List.getElem?_append_left (by omega)]
   congr 1
   omega
  | succ i =>
   rw [List.flatten_cons,List.getElem?_append_right (by rw [h0,Nat.succ_mul];omega),h0]
   have e:(i+1)*k+j - k=i*k+j:=by rw [Nat.succ_mul];omega
   rw [e]
   exact ih (fun cs hc=>hk cs (List.mem_cons_of_mem _ hc)) (by simpa using h) hj
theorem flat_len {k:Nat} {css:List (List Value)} (hk:∀cs∈css,cs.length=k):css.flatten.length=css.length*k:=by
 induction css with
 | nil=>simp
 | cons c r ih =>
  rw [List.flatten_cons,List.length_append,ih (fun cs h=>hk cs (List.mem_cons_of_mem _ h)),hk c List.mem_cons_self,List.length_cons,Nat.succ_mul]
  omega
def CellsE (E:Enc α) (w:World) (D:Nat→Prop) (css:List (List Value)) (l:List α):Prop:=css.length=l.length∧∀(i:Nat) (cs:List Value) (x:α),css[i]?=some cs→l[i]?=some x→E.R w D cs x
theorem CellsE.lens {w:World} {D:Nat→Prop} {css:List (List Value)} {l:List α} (h:CellsE E w D css l):∀cs∈css,cs.length=E.k:=by
 intro cs hc
 obtain ⟨i,hi,rfl⟩:=List.mem_iff_getElem.1 hc
 have hl:i < l.length:=by have:=h.1;omega
 exact E.len (h.2 i _ l[i] (List.getElem?_eq_getElem hi) (List.getElem?_eq_getElem hl))
theorem CellsE.ones {w:World} {D:Nat→Prop} {css:List (List Value)} {l:List α} (h:CellsE E w D css l):∀v∈css.flatten,v.oneCell'=true:=by
 intro v hv
 obtain ⟨cs,hc,hv⟩:=List.mem_flatten.1 hv
 obtain ⟨i,hi,rfl⟩:=List.mem_iff_getElem.1 hc
 have hl:i < l.length:=by have:=h.1;omega
 exact E.one (h.2 i _ l[i] (List.getElem?_eq_getElem hi) (List.getElem?_eq_getElem hl)) v hv
theorem CellsE.mono {w w':World} {D D':Nat→Prop} {css:List (List Value)} {l:List α} (h:CellsE E w D css l) (hk:Kept D w w') (hD:∀b,D b→D' b):CellsE E w' D' css l:=⟨h.1,fun i cs x h1 h2=>E.mono (h.2 i cs x h1 h2) hk hD⟩
theorem CellsE.append {w:World} {D:Nat→Prop} {css dss:List (List Value)} {l r:List α} (h:CellsE E w D css l) (k:CellsE E w D dss r):CellsE E w D (css++dss) (l++r):=by
 refine ⟨by rw [List.length_append,List.length_append,h.1,k.1],fun i cs x h1 h2=>?_⟩
 rw [List.getElem?_append] at h1 h2
 rw [h.1] at h1
 split at h1
 ·rename_i hi
  rw [if_pos hi] at h2
  exact h.2 i cs x h1 h2
 ·rename_i hi
  rw [if_neg hi] at h2
  exact k.2 _ cs x h1 h2
def OwE [Tags] (E:Enc α) (w:World) (base e:Nat) (A:Option Addr) (n c:Nat) (l:List α):Prop:=∃css,w.ownsRow base e E.k (.slice A n c) n css.flatten∧CellsE E w (But w A) css l∧l.length=n
section
variable [Tags] {w w' : World} {base e n c : Nat} {A : Option Addr} {l : List α}
set_option linter.unusedSectionVars false
theorem OwE.len (h:OwE E w base e A n c l):l.length=n:=by obtain ⟨_,_,_,h⟩:=h;exact h
theorem But.under {b:Nat} (h:But w A b):Und w b:=h.1
theorem OwE.rd (h:OwE E w base e A n c l) (ht:Tags.bad e=false):RdE E w (Und w) A n l:=by
 obtain ⟨css,hown,hc,hl⟩:=h
 refine ⟨hl,fun hn=>?_⟩
 rcases hown.2 with ⟨_,h0⟩|⟨g,cap,cur,he,_,hg,_⟩
 ·omega
 ·simp only [Value.slice.injEq] at he
  obtain ⟨rfl,_,rfl⟩:=he
  refine ⟨g,0,rfl,?_,fun i x hx=>?_⟩
  ·exact Und.row hg ht
  ·have hi:=(List.getElem?_eq_some_iff.1 hx).1
   have hic:i < css.length:=by rw [hc.1];exact hi
   have hR:=hc.2 i _ x (List.getElem?_eq_getElem hic) hx
   refine ⟨_,E.mono hR (fun _ _=>rfl) (fun _ h=>h.under),fun j v hv=>?_⟩
   have hj:=(List.getElem?_eq_some_iff.1 hv).1
   rw [E.len hR] at hj
   have hfl:=flat_len hc.lens
   have hlt:i*E.k+j < n*E.k:=by
    have:(i+1)*E.k≤n*E.k:=Nat.mul_le_mul_right _ (by omega)
    rw [Nat.succ_mul] at this
    omega
   rw [Nat.zero_add]
   refine (World.ownsRow.cellAt (g:=g) hown (i*E.k+j) (by first|exact hlt|(rw [hfl,hc.1,hl];exact hlt))).trans ?_
   rw [flat_get hc.lens (List.getElem?_eq_getElem hic) hj]
   exact hv
theorem But.on {b:Nat} (h:But w A b) (hb:Below w.heap.size w w'):But w' A b:=⟨h.1.on hb,h.2⟩
theorem OwE.below (h:OwE E w base e A n c l) (hb:Below w.heap.size w w'):OwE E w' base e A n c l:=by
 obtain ⟨css,hown,hc,hl⟩:=h
 refine ⟨css,⟨hown.1,?_⟩,hc.mono (Kept.of_below hb fun _ h=>h.1.1) (fun _ h=>h.on hb),hl⟩
 rcases hown.2 with h0|⟨g,cap,cur,h1,h2,h3,h4⟩
 ·exact .inl h0
 ·refine .inr ⟨g,cap,cur,h1,h2,?_,h4⟩
  rw [hb.block g ?_]
  ·exact h3
  ·rcases Nat.lt_or_ge g w.heap.size with hlt|hge
   ·exact hlt
   ·rw [Array.getElem?_eq_none hge] at h3;cases h3
theorem OwE.alloc (h:OwE E w base e A n c l) (o:Obj):OwE E (w.alloc o) base e A n c l:=h.below ((Below.refl _ _).alloc (Nat.le_refl _) o)
theorem OwE.drewN (h:OwE E w base e A n c l) (k:Nat):OwE E (w.drewN k) base e A n c l:=h.below (below_drewN (below_self w) k)
theorem OwE.cap (h:OwE E w base e A n c l):n≤c:=by
 obtain ⟨css,hown,_,_⟩:=h
 rcases hown.2 with ⟨h0,h1⟩|⟨g,cap,cur,h1,_,_,h4,_⟩
 ·omega
 ·cases h1;exact h4
theorem OwE.nil_ (E:Enc α) (w:World) (base e:Nat):OwE E w base e none 0 0 []:=⟨[],World.ownsRow_nil _ _ _ _,⟨rfl,fun i cs x h=>by simp at h⟩,rfl⟩
theorem OwE.empty (E:Enc α) (w:World) (e:Nat):OwE E (w.alloc (.cells #[] e)) w.heap.size e (some ⟨w.heap.size,0,none⟩) 0 0 [] :=
 ⟨[],World.ownsRow_lit w #[] 0 (Nat.le_refl _) (by simp [maxLen]) (by simp),⟨rfl,fun i cs x h=>by simp at h⟩,rfl⟩
theorem RdE.one {D:Nat→Prop} {cs:List Value} {x:α} (t:TypeId) (h:E.R w D cs x) (hD:∀b,D b→b < w.heap.size):RdE E (w.alloc (.cells cs.toArray t)) (fun b=>D b∨b=w.heap.size) (some ⟨w.heap.size,0,none⟩) 1 [x]:=by
 refine ⟨rfl,fun _=>⟨_,_,rfl,.inr rfl,fun i y hy=>?_⟩⟩
 have hi:i=0:=by have:=(List.getElem?_eq_some_iff.1 hy).1;simpa using this
 subst hi
 obtain rfl:x=y:=by simpa using hy
 refine ⟨cs,E.mono h (Kept.of_below (B:=w.heap.size) ((Below.refl _ _).alloc (Nat.le_refl _) _) hD) (fun _ h=>.inl h),fun j v hv=>?_⟩
 rw [Nat.zero_mul,Nat.zero_add,Nat.zero_add,(RowL.new w t cs).cell]
 exact hv
end
theorem RdE.cells {w:World} {D:Nat→Prop} {n:Nat} {A:Option Addr} {l:List α} (h:RdE E w D A n l) (hn:0 < n):∃b o css,A=some ⟨b,o,none⟩∧D b∧CellsE E w D css l∧∀j v,css.flatten[j]?=some v→w.cell? ⟨b,o+j,none⟩=some v:=by
 obtain ⟨b,o,e,hlt,hc⟩:=h.2 hn
 have hx:∀i:Fin l.length,∃cs,E.R w D cs l[i]∧∀j v,cs[j]?=some v→w.cell? ⟨b,o+(i.val*E.k+j),none⟩=some v:=fun i=>hc i.val _ (List.getElem?_eq_getElem i.isLt)
 let css:List (List Value):=List.ofFn fun i=>Classical.choose (hx i)
 have hcss:∀i (hi:i < l.length),css[i]?=some (Classical.choose (hx ⟨i,hi⟩)):=fun i hi=>by simp [css,hi]
 have hCE:CellsE E w D css l:=by
  refine ⟨by simp [css],fun i cs x h1 h2=>?_⟩
  have hi:=(List.getElem?_eq_some_iff.1 h2).1
  rw [hcss i hi] at h1
  cases h1
  obtain rfl:l[i]=x:=by rw [List.getElem?_eq_getElem hi] at h2;exact Option.some.inj h2
  exact (Classical.choose_spec (hx ⟨i,hi⟩)).1
 refine ⟨b,o,css,e,hlt,hCE,fun j v hv=>?_⟩
 have hfl:=flat_len hCE.lens
 have hj:=(List.getElem?_eq_some_iff.1 hv).1
 have hk:0 < E.k:=by
  rcases Nat.eq_zero_or_pos E.k with h0|h0
  ·rw [hfl,h0] at hj;omega
  ·exact h0
 have hi:j / E.k < l.length:=by
  rw [hfl,hCE.1] at hj
  exact Nat.div_lt_of_lt_mul (by rw [Nat.mul_comm];exact hj)
 have e1:j / E.k*E.k+j % E.k=j:=by rw [Nat.mul_comm];exact Nat.div_add_mod j E.k
 have hm:=Nat.mod_lt j hk
 have hg:=flat_get hCE.lens (hcss _ hi) hm
 rw [e1] at hg
 rw [hg] at hv
 have:=(Classical.choose_spec (hx ⟨j / E.k,hi⟩)).2 _ v hv
 rwa [e1] at this

theorem append_where {P : Program} {w : World} {base : Nat} {t ty e : TypeId} {i : TypeInfo} {z : Value} {size k : Nat} (ht : P.underlying t = some (.slice e)) (hi : P.info? e = some i) (hz : i.zero = some z) (hsz : i.size = size) (hby : i.bytes = k)
  {v v':Value} {n:Nat} {xs:List Value} (hown:w.ownsRow base e size v n xs) {a:Addr} {m c:Nat} (hr:∃w',(Builtin.append_ #[t,t] ty #[v,.slice (some a) m c]).run P w=.ok v' w') {news:List Value} (hl:news.length=m*size)
  (hnews:∀j u,news[j]?=some u→w.cell? (a.add j)=some u) (h1:∀u∈news,u.oneCell'=true) (hbytes:(n+m)*k≤140737488355328) (hnm:n+m≤140737488355328) :
  v'.ownBlock=v.ownBlock∨∀b,v'.ownBlock=some b→w.heap.size≤b:=by
 obtain ⟨w',hr⟩:=hr
 subst hsz
 subst hby
 rcases hown.2 with ⟨rfl,rfl⟩|⟨g,cap,cur,rfl,hbg,hg,hnc,hcm,hcs,htake⟩
 ·by_cases hm:m=0
  ·subst hm
   have:news=[]:=List.eq_nil_of_length_eq_zero (by simpa using hl)
   have h2:(Builtin.append_ #[t,t] ty #[.slice none 0 0,.slice (some a) 0 c]).run P w=.ok (.slice none 0 0) w:=by
    simp [Builtin.append_,run_underlying ht,sizeOf,typeInfo,hi,Builtin.lenOf,Builtin.firstCells,loadCells,loadCellsFrom]
   rw [h2] at hr
   cases hr
   exact .inl rfl
  ·have h2:=run_append_nil (P:=P) w t ty e i z ht hi hz a m c news hl hnews (by omega) (by omega) (by have hb:=hbytes;simp only [Nat.zero_add] at hb;omega)
   rw [h2] at hr
   cases hr
   exact .inr fun b hb=>by simp [Value.ownBlock] at hb;omega
 ·by_cases hroom:n+m≤cap
  ·have hfit:n*i.size+news.length≤cur.size:=by rw [hl,hcs,←Nat.add_mul];exact Nat.mul_le_mul_right _ hroom
   have h2:=run_append_room (P:=P) w t ty e i ht hi g n cap cur hg a m c news hl hnews h1 hroom hfit
   rw [h2] at hr
   cases hr
   exact .inl rfl
  ·have holds:∀j u,xs[j]?=some u→w.cell? ((⟨g,0,none⟩:Addr).add j)=some u:=hown.cells (g:=g) rfl
   have h2:=run_append_grow (P:=P) w t ty e i z ht hi hz ⟨g,0,none⟩ n cap xs hown.1 holds a m c news hl hnews (by omega) (by omega) (growslice_fits (by omega) hbytes)
   rw [h2] at hr
   cases hr
   exact .inr fun b hb=>by simp [Value.ownBlock] at hb;omega

theorem run_append_E {P : Program} (w : World) (base : Nat) (t ty e : TypeId) (z : Value) (k : Nat) (ht : P.underlying t = some (.slice e)) (hinfo : (P.info? e).map (fun i => (i.zero, i.size, i.bytes)) = some (some z, E.k, k)) (hzs : z.cells.size = E.k) (hk : 0 < E.k)
  (v:Value) (n:Nat) (css:List (List Value)) (hown:w.ownsRow base e E.k v n css.flatten) (D:Nat→Prop) (A:Option Addr) (m c:Nat) (l1:List α) (hb:RdE E w D A m l1)
  (hbytes:(n+m)*k≤140737488355328) (hnm:n+m≤140737488355328) (hbase:base≤w.heap.size) :
  ∃v' w' dss,(Builtin.append_ #[t,t] ty #[v,.slice A m c]).run P w=.ok v' w'∧w'.ownsRow base e E.k v' (n+m) (css++dss).flatten∧CellsE E w D dss l1∧Below base w w'∧w.grownBy w' v.ownBlock∧(v'.ownBlock=v.ownBlock∨∀b,v'.ownBlock=some b→w.heap.size≤b):=by
 obtain ⟨i,hi,hz,hsz,hby⟩:=info_parts hinfo
 rcases Nat.eq_zero_or_pos m with hm|hm
 ·subst hm
  obtain rfl:l1=[]:=List.eq_nil_of_length_eq_zero hb.1
  cases A with
  | none=>exact ⟨v,w,[],run_append_nil0 w base t ty e i E.k ht hi v n _ hown c,by simpa using hown,⟨rfl,fun i cs x h=>by simp at h⟩,Below.refl _ _,⟨rfl,rfl,rfl,Nat.le_refl _,fun _ _ _=>rfl⟩,.inl rfl⟩
  | some ad =>
   obtain ⟨v',w',hr,h2,h3,_⟩:=run_append_own (P:=P) w base t ty e i z E.k k ht hi hz hsz hby hzs hk v n _ hown ad 0 c [] (by simp) (by simp) (by simp) (by simp only [maxLen];omega) hbytes hbase
   exact ⟨v',w',[],hr,by simpa using h2,⟨rfl,fun i cs x h=>by simp at h⟩,Below.of_grown_own hown h3 hbase,h3,append_where ht hi hz hsz hby hown ⟨_,hr⟩ (news:=[]) (by simp) (by simp) (by simp) hbytes hnm⟩
 ·obtain ⟨b,o,dss,rfl,_,hC,hcell⟩:=hb.cells hm
  have hfl:=flat_len hC.lens
  obtain ⟨v',w',hr,h2,h3,_⟩:=run_append_own (P:=P) w base t ty e i z E.k k ht hi hz hsz hby hzs hk v n _ hown ⟨b,o,none⟩ m c dss.flatten (by rw [hfl,hC.1,hb.1]) (fun j u hu=>by
   have:=hcell j u hu
   rw [←this]
   congr 1
   unfold Addr.add
   split
   ·rename_i h0;subst h0;rfl
   ·rfl) hC.ones (by simp only [maxLen];omega) hbytes hbase
  exact ⟨v',w',dss,hr,by rw [List.flatten_append];exact h2,hC,Below.of_grown_own hown h3 hbase,h3,append_where ht hi hz hsz hby hown ⟨_,hr⟩ (news:=dss.flatten) (by rw [hfl,hC.1,hb.1]) (fun j u hu=>by
   have:=hcell j u hu
   rw [←this]
   congr 1
   unfold Addr.add
   split
   ·rename_i h0;subst h0;rfl
   ·rfl) hC.ones hbytes hnm⟩
theorem run_append_OwE [Tags] {P : Program} (w : World) (base : Nat) (t ty e : TypeId) (z : Value) (k : Nat) (ht : P.underlying t = some (.slice e)) (hinfo : (P.info? e).map (fun i => (i.zero, i.size, i.bytes)) = some (some z, E.k, k)) (hzs : z.cells.size = E.k) (hk : 0 < E.k)
  (A0:Option Addr) (n c0:Nat) (l0:List α) (hown:OwE E w base e A0 n c0 l0) (D:Nat→Prop) (A:Option Addr) (m c:Nat) (l1:List α) (hb:RdE E w D A m l1) (hD:∀b,D b→But w A0 b)
  (hbytes:(n+m)*k≤140737488355328) (hnm:n+m≤140737488355328) (hbase:base≤w.heap.size) :
  ∃A' c' w',(Builtin.append_ #[t,t] ty #[.slice A0 n c0,.slice A m c]).run P w=.ok (.slice A' (n+m) c') w'∧OwE E w' base e A' (n+m) c' (l0++l1)∧Below base w w':=by
 obtain ⟨css,hrow,hc,hl⟩:=hown
 obtain ⟨v',w',dss,hr,h2,h3,h4,h5,h6⟩:=run_append_E (P:=P) w base t ty e z k ht hinfo hzs hk _ n css hrow D A m c l1 hb hbytes hnm hbase
 have hv:∃A' c',v'=.slice A' (n+m) c':=by
  rcases h2.2 with ⟨rfl,h0⟩|⟨g,cap,cur,rfl,_⟩
  ·exact ⟨none,0,by rw [h0]⟩
  ·exact ⟨_,_,rfl⟩
 obtain ⟨A',c',rfl⟩:=hv
 have hkept:Kept (But w A0) w w':=by
  intro b hb
  refine h5.block b hb.1.1 ?_
  intro e
  cases A0 with
  | none=>simp [Value.ownBlock] at e
  | some a =>
   have:b=a.block:=by simpa [Value.ownBlock] using e
   exact hb.2 a rfl this
 refine ⟨A',c',w',hr,⟨css++dss,h2,?_,by rw [List.length_append,hl,hb.1]⟩,h4⟩
 have hnew:∀b,But w A0 b→But w' A' b:=by
  intro b hb
  refine ⟨hb.1.eq h4.size (hkept b hb),fun a ha=>?_⟩
  subst ha
  intro e
  rcases h6 with h6|h6
  ·cases A0 with
   | none=>simp [Value.ownBlock] at h6
   | some a0 =>
    have e2:a.block=a0.block:=by simpa [Value.ownBlock] using h6
    exact hb.2 a0 rfl (e.trans e2)
  ·have:=h6 a.block rfl
   have:=hb.1.1
   omega
 exact (hc.mono hkept hnew).append ((h3.mono (fun b hb=>hkept b (hD b hb)) (fun b hb=>hnew b (hD b hb))))
end Go.Proofs.YtpndfahgflgocaaGreatDoor

