import Derived.Below
import Derived.WalkKit
import Derived.WalkSpells
import Derived.WalkLawsBesides
import Derived.Laws.BytesArg
import Derived.Laws.CopyOwn
import Derived.Lib.ConvBytes
import Derived.Lib.BufferWrite

namespace Go.Proofs.YtpndfahgflgocaaGreatDoor
theorem pu1 {α:Type} (l:List α) (i:Nat) (a:α):l.toArray.setIfInBounds i a=(l.set i a).toArray:=List.setIfInBounds_toArray ..
theorem pu2 {α:Type} {a b:α} {l:List α}:(a::l).set 0 b=b::l:=List.set_cons_zero ..
theorem pu4 {g b:Nat} (h:b≤g):∀k,some g=some k→b≤k:=fun k hk=>by have:=Option.some.inj hk;omega
theorem pu5 {g h:Nat} (hn:g≠h):some g≠some h:=fun e=>hn (Option.some.inj e)
theorem pu3 {α:Type} {a b:α} {l:List α} {n:Nat}:(a::l).set (n+1) b=a::l.set n b:=List.set_cons_succ ..
end Go.Proofs.YtpndfahgflgocaaGreatDoor
namespace Go.Proofs.YtpndfahgflgocaaGreatDoor.Plain

open Go.RowKit in
theorem hide {p:Prop} (h:p):Hid p:=h

def isz (s:Int):Bool:=s==1||s==2||s==4
def val : List UInt8 → Nat
 | []=>0
 | b::r=>b.toNat+256*val r
theorem val_lt (l:List UInt8):val l < 256 ^ l.length:=by
 induction l with
 | nil=>simp [val]
 | cons b r ih =>
  have:=b.toNat_lt
  simp only [val,List.length_cons,Nat.pow_succ]
  omega
def hold (m:Nat) (p s:Int):Bool:=isz s&&(decide (0≤p)&&decide (p≤m - s))
end Go.Proofs.YtpndfahgflgocaaGreatDoor.Plain

namespace Go.Proofs.YtpndfahgflgocaaGreatDoor
open Go.RowKit

def bv (x:UInt8):Value:=.int .u8 (x.toNat:Int)
def bvs (l:List UInt8):List Value:=l.map bv
theorem bvs_length (l:List UInt8):(bvs l).length=l.length:=by simp [bvs]
theorem bvs_get {l:List UInt8} {i:Nat} {x:UInt8} (h:l[i]?=some x):(bvs l)[i]?=some (bv x):=by simp [bvs,h]
theorem bvs_append (a b:List UInt8):bvs (a++b)=bvs a++bvs b:=by simp [bvs]
theorem bvs_one (l:List UInt8):∀u∈bvs l,u.oneCell'=true:=by
 intro u hu
 obtain ⟨x,_,rfl⟩:=List.mem_map.1 hu
 rfl
theorem bvs_of_get {l:List UInt8} {i:Nat} {u:Value} (h:(bvs l)[i]?=some u):∃x,l[i]?=some x∧u=bv x:=by
 simp only [bvs,List.getElem?_map,Option.map_eq_some_iff] at h
 obtain ⟨x,hx,rfl⟩:=h
 exact ⟨x,hx,rfl⟩

def Bs (w:World) (B:Nat) (A:Option Addr) (n:Nat) (l:List UInt8):Prop :=
 l.length=n∧(0 < n→∃b o,A=some ⟨b,o,none⟩∧b < B∧∀i x,l[i]?=some x→w.cell? ⟨b,o+i,none⟩=some (bv x))

section
variable {w w' : World} {B B' n c : Nat} {A : Option Addr} {l : List UInt8}
theorem Bs.none_ (w:World) (B:Nat) (A:Option Addr):Bs w B A 0 []:=⟨rfl,fun h=>absurd h (by omega)⟩
theorem Bs.len (h:Bs w B A n l):l.length=n:=h.1
theorem Bs.below (h:Bs w B A n l) (hb:Below B w w'):Bs w' B A n l:=⟨h.1,fun hn=>by
 obtain ⟨b,o,e,hlt,hc⟩:=h.2 hn
 exact ⟨b,o,e,hlt,fun i x hx=>(hb.cell hlt).trans (hc i x hx)⟩⟩
theorem Bs.more (h:Bs w B A n l) (hB:B≤B'):Bs w B' A n l:=⟨h.1,fun hn=>by
 obtain ⟨b,o,e,hlt,hc⟩:=h.2 hn
 exact ⟨b,o,e,by omega,hc⟩⟩
theorem Bs.grown {row:Option Nat} (h:Bs w B A n l) (hg:w.grownBy w' row) (hB:B≤w.heap.size) (hr:∀g,row=some g→B≤g):Bs w' B A n l:=⟨h.1,fun hn=>by
 obtain ⟨b,o,e,hlt,hc⟩:=h.2 hn
 exact ⟨b,o,e,hlt,fun i x hx=>(World.cell?_of_block (hg.block b (by omega) (fun e=>by have:=hr _ e.symm;omega))).trans (hc i x hx)⟩⟩
theorem Bs.alloc (h:Bs w B A n l) (hB:B≤w.heap.size) (o:Obj):Bs (w.alloc o) B A n l:=h.grown (World.grownBy_alloc w o none) hB (by simp)
theorem Bs.drew (h:Bs w B A n l):Bs w.drew B A n l:=h
theorem Bs.drewN (h:Bs w B A n l) (k:Nat):Bs (w.drewN k) B A n l:=h
theorem Bs.of_own {base:Nat} {e:TypeId} (h:w.ownsRow base e 1 (.slice A n c) n (bvs l)):Bs w w.heap.size A n l:=by
 have hlen:l.length=n:=by have:=h.1;rw [bvs_length] at this;omega
 refine ⟨hlen,fun hn=>?_⟩
 rcases h.2 with ⟨_,h0⟩|⟨g,cap,cur,he,_,hg,hnc,_,hcs,ht⟩
 ·omega
 ·simp only [Value.slice.injEq] at he
  obtain ⟨rfl,_,rfl⟩:=he
  refine ⟨g,0,rfl,?_,fun i x hx=>?_⟩
  ·rcases Nat.lt_or_ge g w.heap.size with hlt|hge
   ·exact hlt
   ·rw [Array.getElem?_eq_none hge] at hg;cases hg
  ·rw [Nat.zero_add]
   exact (h.cellAt (g:=g) i (by have:=(List.getElem?_eq_some_iff.1 hx).1;omega)).trans (bvs_get hx)
theorem Bs.cut {lo hi:Nat} (h:Bs w B A n l) (h1:lo≤hi) (h2:hi≤n) {m:Nat} (h3:hi≤m) :
  Bs w B (if m=lo then A else A.map (·.add (lo*1))) (hi - lo) ((l.drop lo).take (hi - lo)):=by
 refine ⟨by have:=h.1;simp;omega,fun hn=>?_⟩
 obtain ⟨b,o,rfl,hlt,hc⟩:=h.2 (by omega)
 rw [if_neg (by omega)]
 refine ⟨b,o+lo,?_,hlt,fun i x hx=>?_⟩
 ·by_cases h0:lo=0 <;> simp [Addr.add,h0]
 ·rw [List.getElem?_take] at hx
  split at hx
  ·rw [List.getElem?_drop] at hx
   have:=hc _ _ hx
   rwa [←Nat.add_assoc] at this
  ·cases hx
end

theorem run_string_Bs {P : Program} (W : World) (src e dst : TypeId) (hs : P.underlying src = some (.slice e)) (he : P.underlying e = some (.int .u8)) (hd : P.underlying dst = some .string)
  {B n c:Nat} {A:Option Addr} {l:List UInt8} (h:Bs W B A n l):(convert src dst (.slice A n c)).run P W=.ok (.string ⟨l.toArray⟩) W:=by
 obtain ⟨hl,hp⟩:=h
 by_cases hn:n=0
 ·subst hn
  obtain rfl:l=[]:=List.eq_nil_of_length_eq_zero hl
  rw [run_convert_bytes_string W src dst e A 0 c hs he hd]
  cases A with
  | none=>simp [Conv.bytesToString];rfl
  | some a =>
   have:=run_bytesToString (P:=P) W a 0 c [] (by simp [loadCells,loadCellsFrom])
   rw [this];rfl
 ·obtain ⟨b,o,rfl,_,hc⟩:=hp (by omega)
  have:=run_convert_bytes_arg (P:=P) W src e hs he b o n c (l.map fun x=>(x.toNat:Int)) (by simpa using hl) (fun i hi=>by
   have hx:l[i]?=some l[i]:=List.getElem?_eq_getElem (by omega)
   rw [hc i _ hx]
   simp [bv,List.getD,hx]) dst hd
  rw [this]
  simp only [strOfNums,List.map_map]
  congr 4
  conv=>rhs;rw [←List.map_id l]
  apply List.map_congr_left
  intro x _
  simp

def RowL (w:World) (g:Nat) (t:TypeId) (cs:List Value):Prop:=w.heap[g]?=some (.cells cs.toArray t (0,0))
section
variable {w w' : World} {g t : Nat} {cs : List Value}
theorem RowL.lt (h:RowL w g t cs):g < w.heap.size:=by
 rcases Nat.lt_or_ge g w.heap.size with hlt|hge
 ·exact hlt
 ·unfold RowL at h;rw [Array.getElem?_eq_none hge] at h;cases h
theorem RowL.cell (h:RowL w g t cs) (i:Nat):w.cell? ⟨g,i,none⟩=cs[i]?:=by rw [cell_of_row w g i _ t _ h];simp
theorem RowL.frozen (h:RowL w g t cs) (i:Nat):w.frozen? ⟨g,i,none⟩=false:=frozen_of_row w g i _ t h
theorem RowL.set_ (h:RowL w g t cs) (i:Nat) (u:Value):RowL (w.setCell ⟨g,i,none⟩ u) g t (cs.set i u):=by
 unfold RowL
 rw [heap_setCell_same w g i _ t u h]
 simp
theorem RowL.grown {row:Option Nat} (h:RowL w g t cs) (hb:w.grownBy w' row) (hg:some g≠row):RowL w' g t cs:=(hb.block g h.lt hg).trans h
theorem RowL.own (h:RowL w g t cs) {base n cap:Nat} (hb:base≤g) (hn:n≤cap) (hm:cap≤maxLen) (hc:cs.length=cap):w.ownsRow base t 1 (.slice (some ⟨g,0,none⟩) n cap) n (cs.take n) :=
 ⟨by simp;omega,.inr ⟨g,cap,cs.toArray,rfl,hb,h,hn,hm,by simpa using hc,by simp⟩⟩
end
def Own (w:World) (base e:Nat) (A:Option Addr) (n c:Nat) (l:List UInt8):Prop:=w.ownsRow base e 1 (.slice A n c) n (bvs l)
theorem Own.of {w:World} {base e n:Nat} {v:Value} {l:List UInt8} (h:w.ownsRow base e 1 v n (bvs l)):∃A c,v=.slice A n c∧Own w base e A n c l:=by
 rcases h.2 with ⟨rfl,rfl⟩|⟨g,cap,cur,rfl,_⟩
 ·exact ⟨none,0,rfl,h⟩
 ·exact ⟨_,cap,rfl,h⟩
section
variable {w w' : World} {base e n c : Nat} {A : Option Addr} {l : List UInt8}
theorem Own.bs (h:Own w base e A n c l):Bs w w.heap.size A n l:=Bs.of_own h
theorem Own.len (h:Own w base e A n c l):l.length=n:=h.bs.1
theorem Own.below (h:Own w base e A n c l) (hb:Below w.heap.size w w'):Own w' base e A n c l:=by
 refine ⟨h.1,?_⟩
 rcases h.2 with h0|⟨g,cap,cur,h1,h2,h3,h4⟩
 ·exact .inl h0
 ·refine .inr ⟨g,cap,cur,h1,h2,?_,h4⟩
  rw [hb.block g ?_]
  ·exact h3
  ·rcases Nat.lt_or_ge g w.heap.size with hlt|hge
   ·exact hlt
   ·rw [Array.getElem?_eq_none hge] at h3;cases h3
theorem Own.cap (h:Own w base e A n c l):n≤c:=by
 rcases h.2 with ⟨h0,h1⟩|⟨g,cap,cur,h1,_,_,h4,_⟩
 ·omega
 ·cases h1;exact h4
theorem Own.row (h:Own w base e A n c l) (hn:0 < n):∃g cs,A=some ⟨g,0,none⟩∧base≤g∧RowL w g e cs∧cs.length=c∧n≤c∧c≤maxLen∧cs.take n=bvs l:=by
 rcases h.2 with ⟨_,h1⟩|⟨g,cap,cur,h1,h2,h3,h4,h5,h6,h7⟩
 ·omega
 ·cases h1
  exact ⟨g,cur.toList,rfl,h2,by simpa [RowL] using h3,by simpa using h6,h4,h5,by simpa using h7⟩
end
def BRet (w:World) (e n:Nat) (l:List UInt8) (x:Ending) (w':World):Prop:=∃A c,x=.returned (.slice A n c)∧Own w' w.heap.size e A n c l∧Below w.heap.size w w'
theorem BRet.of {w w':World} {e n:Nat} {v:Value} {l:List UInt8} (h:w'.ownsRow w.heap.size e 1 v n (bvs l)) (hb:Below w.heap.size w w'):BRet w e n l (.returned v) w':=by
 obtain ⟨A,c,rfl,ho⟩:=Own.of h
 exact ⟨A,c,rfl,ho,hb⟩
theorem Own.ret {w w':World} {e n c:Nat} {A:Option Addr} {l:List UInt8} (h:Own w' w.heap.size e A n c l) (hb:Below w.heap.size w w'):BRet w e n l (.returned (.slice A n c)) w':=⟨A,c,rfl,h,hb⟩

theorem run_append_nil0 {P : Program} (w : World) (base : Nat) (t ty e : TypeId) (i : TypeInfo) (size : Nat) (ht : P.underlying t = some (.slice e)) (hi : P.info? e = some i)
  (v:Value) (n:Nat) (xs:List Value) (hown:w.ownsRow base e size v n xs) (c:Nat):(Builtin.append_ #[t,t] ty #[v,.slice none 0 c]).run P w=.ok v w:=by
 rcases hown.2 with ⟨rfl,rfl⟩|⟨g,cap,cur,rfl,_,_,hnc,_⟩
 ·simp [Builtin.append_,run_underlying ht,sizeOf,typeInfo,hi,Builtin.lenOf,Builtin.firstCells]
 ·simp [Builtin.append_,run_underlying ht,sizeOf,typeInfo,hi,Builtin.lenOf,Builtin.firstCells,hnc,storeCells]

theorem Below.of_grown_own {w w':World} {base e size n:Nat} {v:Value} {xs:List Value} (hown:w.ownsRow base e size v n xs) (hg:w.grownBy w' v.ownBlock) (hb:base≤w.heap.size):Below base w w' :=
 (Below.refl _ _).grown hg hb (fun k hk=>(hown.lt k hk).1)

theorem run_append_Bs {P : Program} (w : World) (base : Nat) (t ty e : TypeId) (ht : P.underlying t = some (.slice e)) (hinfo : (P.info? e).map (fun i => (i.zero, i.size, i.bytes)) = some (some (.int .u8 0), 1, 1))
  (v:Value) (n:Nat) (l0:List UInt8) (hown:w.ownsRow base e 1 v n (bvs l0)) (B:Nat) (A:Option Addr) (m c:Nat) (l1:List UInt8) (hb:Bs w B A m l1)
  (hbytes:n+m≤140737488355328) (hbase:base≤w.heap.size) :
  ∃v' w',(Builtin.append_ #[t,t] ty #[v,.slice A m c]).run P w=.ok v' w'∧w'.ownsRow base e 1 v' (n+m) (bvs (l0++l1))∧Below base w w':=by
 obtain ⟨i,hi,hz,hsz,hby⟩:=info_parts hinfo
 rw [bvs_append]
 cases A with
 | none =>
  have hm:m=0:=by
   rcases Nat.eq_zero_or_pos m with h0|h0
   ·exact h0
   ·obtain ⟨_,_,h,_⟩:=hb.2 h0;cases h
  subst hm
  obtain rfl:l1=[]:=List.eq_nil_of_length_eq_zero hb.1
  exact ⟨v,w,run_append_nil0 w base t ty e i 1 ht hi v n _ hown c,by simpa [bvs] using hown,Below.refl _ _⟩
 | some ad =>
  have hcells:∀j u,(bvs l1)[j]?=some u→w.cell? (ad.add j)=some u:=by
   intro j u hu
   obtain ⟨x,hx,rfl⟩:=bvs_of_get hu
   have hj:j < l1.length:=(List.getElem?_eq_some_iff.1 hx).1
   obtain ⟨b,o,e,_,hc⟩:=hb.2 (by have:=hb.1;omega)
   injection e with e
   subst e
   rw [←hc j x hx]
   congr 1
   unfold Addr.add
   split
   ·rename_i h0;subst h0;rfl
   ·rfl
  obtain ⟨v', w', hr, h2, h3, _⟩ := run_append_own (P := P) w base t ty e i (.int .u8 0) 1 1 ht hi hz hsz hby rfl (by omega) v n _ hown ad m c (bvs l1) (by rw [bvs_length]; have := hb.1; omega) hcells (bvs_one _)
   (by simp only [maxLen];omega) (by omega) hbase
  exact ⟨v',w',hr,h2,Below.of_grown_own hown h3 hbase⟩

theorem wpList_append_Bs {P : Program} (w : World) {ops : Array Oper} {rest : List Oper} {o : Oper} {a : Act} {Q : Exit → Act → World → Prop} (hgd : o.guard = none) (s x : Operand) (t : TypeId)
  (ho:o.op=.call {callee:=.builtin .append,args:=#[s,x],argTypes:=#[t,t]})
  (base:Nat) (e:TypeId) (ht:P.underlying t=some (.slice e)) (hinfo:(P.info? e).map (fun i=>(i.zero,i.size,i.bytes))=some (some (.int .u8 0),1,1))
  (A0:Option Addr) (n c0:Nat) (l0:List UInt8) (hs:a.eval s=.slice A0 n c0) (hown:Own w base e A0 n c0 l0) (B:Nat) (A:Option Addr) (m c:Nat) (l1:List UInt8) (hx:a.eval x=.slice A m c) (hb:Bs w B A m l1)
  (N:Nat) (hN:n+m=N) (hbytes:N≤140737488355328) (hbase:base≤w.heap.size)
  (h:∀A' c' w',Own w' base e A' N c' (l0++l1)→Below base w w'→wpList P ops Q rest (a.put o.dst (.slice A' N c')) w'):wpList P ops Q (o::rest) a w:=by
 subst hN
 refine wpList_plain hgd fun K hK=>?_
 obtain ⟨v',w',hr,h2,h3⟩:=run_append_Bs (P:=P) w base t o.type e ht hinfo _ n l0 hown B A m c l1 hb hbytes hbase
 unfold Oper.wp execOp
 simp only [ho,resolve,invoke,builtin,Sem.run_bind,Sem.run_pure,Result.andThen_ok,List.map_toArray,List.map_cons,List.map_nil,hs,hx,hr]
 obtain ⟨A',c',rfl,h4⟩:=Own.of h2
 exact hK _ _ (h A' c' w' h4 h3)

theorem splice_get {α:Type} (L:List α) (off:Nat) (cs:List α) (i:Nat) (h:off+cs.length≤L.length) :
  (splice L off cs)[i]?=if i < off then L[i]? else if i < off+cs.length then cs[i - off]? else L[i]?:=by
 have h1:(L.take off).length=off:=by simp;omega
 simp only [splice,List.getElem?_append,h1,List.getElem?_drop,List.getElem?_take]
 by_cases e1:i < off
 ·simp [e1]
 ·by_cases e2:i < off+cs.length
  ·rw [if_neg e1,if_pos (by omega),if_neg e1,if_pos e2]
  ·rw [if_neg e1,if_neg (by omega),if_neg e1,if_neg e2]
   congr 1
   omega
theorem RowL.of_made {w:World} {base g e n:Nat} {xs:List Value} (h:w.ownsRow base e 1 (.slice (some ⟨g,0,none⟩) n n) n xs):RowL w g e xs:=by
 rcases h.2 with ⟨h',_⟩|⟨g',cap,cur,h',_,hg,_,_,hcs,ht⟩
 ·cases h'
 ·simp only [Value.slice.injEq,Option.some.injEq,Addr.mk.injEq,and_true,true_and] at h'
  obtain ⟨rfl,rfl⟩:=h'
  have e1:xs=cur.toList:=by rw [←ht];exact List.take_of_length_le (by rw [Array.length_toList,hcs];exact Nat.le_refl _)
  subst e1
  simpa [RowL] using hg
theorem splice_all {α:Type} (Z a:List α) (h:Z.length=a.length):splice Z 0 a=a:=by
 simp [splice];omega
theorem Bs.of_row {w:World} {g t B o:Nat} {cs:List Value} {l:List UInt8} (h:RowL w g t cs) (hg:g < B) (hl:∀i x,l[i]?=some x→cs[o+i]?=some (bv x)):Bs w B (some ⟨g,o,none⟩) l.length l :=
 ⟨rfl,fun _=>⟨g,o,rfl,hg,fun i x hx=>(h.cell _).trans (hl i x hx)⟩⟩

theorem RowL.new (w:World) (t:TypeId) (cs:List Value):RowL (w.alloc (.cells cs.toArray t)) w.heap.size t cs:=heap_alloc_new w _
theorem Bs.lit (w:World) (t:TypeId) {cs:List Value} {l:List UInt8} {n:Nat} (h:cs=bvs l) (hn:l.length=n):Bs (w.alloc (.cells cs.toArray t)) (w.heap.size+1) (some ⟨w.heap.size,0,none⟩) n l:=by
 subst hn
 subst h
 exact Bs.of_row (RowL.new w t _) (by omega) (fun i x hx=>by rw [Nat.zero_add];exact bvs_get hx)
theorem Bs.one (w:World) (t:TypeId) {u:Value} {x:UInt8} (h:u=bv x):Bs (w.alloc (.cells #[u] t)) (w.heap.size+1) (some ⟨w.heap.size,0,none⟩) 1 [x] :=
 Bs.lit w t (cs:=[u]) (by rw [h];rfl) rfl
theorem Own.alloc {w:World} {base e n c:Nat} {A:Option Addr} {l:List UInt8} (h:Own w base e A n c l) (o:Obj):Own (w.alloc o) base e A n c l:=h.below ((Below.refl _ _).alloc (Nat.le_refl _) o)
def LawOk (w:World) (x:Ending) (w':World):Prop:=x=.returned (.bool true)∧Below w.heap.size w w'
theorem LawOk.of {w w':World} (h:Below w.heap.size w w'):LawOk w (.returned (.bool true)) w':=⟨rfl,h⟩
theorem below_step {w w1 w2:World} (h:Below w.heap.size w w1) (k:Below w1.heap.size w1 w2):Below w.heap.size w w2:=h.trans (k.mono h.size)
theorem below_new {w w1:World} (h:Below w.heap.size w w1) (o:Obj):Below w.heap.size w (w1.alloc o):=h.alloc h.size o
theorem below_self (w:World):Below w.heap.size w w:=Below.refl _ _
theorem Bs.pre {w:World} {B n i:Nat} {A:Option Addr} {l:List UInt8} (h:Bs w B A n l) (hi:i≤n):Bs w B A i (l.take i):=by
 refine ⟨by have:=h.1;simp;omega,fun hn=>?_⟩
 obtain ⟨b,o,e,hb,hc⟩:=h.2 (by omega)
 refine ⟨b,o,e,hb,fun j x hx=>hc j x ?_⟩
 rw [List.getElem?_take] at hx
 split at hx
 ·exact hx
 ·cases hx
theorem take_splice_pre {α:Type} (L:List α) (off:Nat) (X:List α) (h:off+X.length≤L.length):(splice L off X).take off=L.take off:=by
 have:(L.take off).length=off:=by simp;omega
 simp only [splice]
 rw [List.take_left' this]
theorem Own.rebase {w:World} {b b' e n c:Nat} {A:Option Addr} {l:List UInt8} (h:Own w b e A n c l) (hb:b'≤b):Own w b' e A n c l:=by
 refine ⟨h.1,?_⟩
 rcases h.2 with h0|⟨g,cap,cur,h1,h2,h3⟩
 ·exact .inl h0
 ·exact .inr ⟨g,cap,cur,h1,Nat.le_trans hb h2,h3⟩
theorem bvs_set (l:List UInt8) (p:Nat) (y:UInt8):bvs (l.set p y)=(bvs l).set p (bv y):=by simp [bvs,List.map_set]
theorem Own.set_ {w:World} {base e n c g:Nat} {l:List UInt8} (h:Own w base e (some ⟨g,0,none⟩) n c l) (p:Nat) {u:Value} {y:UInt8} (hu:u=bv y):Own (w.setCell ⟨g,p,none⟩ u) base e (some ⟨g,0,none⟩) n c (l.set p y):=by
 subst hu
 unfold Own
 rw [bvs_set]
 exact (World.ownsRow.stored h p (bv y)).1
theorem Own.lit (w:World) (e:TypeId) {cs:List Value} {l:List UInt8} {n:Nat} (h:cs=bvs l) (hn:l.length=n) (hm:n≤140737488355328):Own (w.alloc (.cells cs.toArray e)) w.heap.size e (some ⟨w.heap.size,0,none⟩) n n l:=by
 subst hn
 subst h
 have:=World.ownsRow_lit (base:=w.heap.size) (size:=1) (e:=e) w (bvs l).toArray l.length (Nat.le_refl _) (by simp only [maxLen];omega) (by simp [bvs_length])
 simpa [Own] using this
theorem Own.one (w:World) (e:TypeId) {u:Value} {x:UInt8} (h:u=bv x):Own (w.alloc (.cells #[u] e)) w.heap.size e (some ⟨w.heap.size,0,none⟩) 1 1 [x] :=
 Own.lit w e (cs:=[u]) (by rw [h];rfl) rfl (by omega)
theorem Own.nil_ (w:World) (base e:Nat):Own w base e none 0 0 []:=World.ownsRow_nil _ _ _ _
theorem below_drewN {B:Nat} {a w:World} (h:Below B a w) (n:Nat):Below B a (w.drewN n):=⟨h.os,h.tape,h.output,h.size,h.block⟩
end Go.Proofs.YtpndfahgflgocaaGreatDoor

namespace Go.Proofs.YtpndfahgflgocaaGreatDoor
open Go.RowKit
variable {α : Type} {f : α → Value}

def Rd (f:α→Value) (w:World) (B:Nat) (A:Option Addr) (n:Nat) (l:List α):Prop :=
 l.length=n∧(0 < n→∃b o,A=some ⟨b,o,none⟩∧b < B∧∀i x,l[i]?=some x→w.cell? ⟨b,o+i,none⟩=some (f x))
def Ow (f:α→Value) (w:World) (base e:Nat) (A:Option Addr) (n c:Nat) (l:List α):Prop:=w.ownsRow base e 1 (.slice A n c) n (l.map f)

section
variable {w w' : World} {B B' n c base e : Nat} {A : Option Addr} {l : List α}
theorem Rd.none_ (f:α→Value) (w:World) (B:Nat) (A:Option Addr):Rd f w B A 0 []:=⟨rfl,fun h=>absurd h (by omega)⟩
theorem Rd.len (h:Rd f w B A n l):l.length=n:=h.1
theorem Rd.below (h:Rd f w B A n l) (hb:Below B w w'):Rd f w' B A n l:=⟨h.1,fun hn=>by
 obtain ⟨b,o,e,hlt,hc⟩:=h.2 hn
 exact ⟨b,o,e,hlt,fun i x hx=>(hb.cell hlt).trans (hc i x hx)⟩⟩
theorem Rd.more (h:Rd f w B A n l) (hB:B≤B'):Rd f w B' A n l:=⟨h.1,fun hn=>by
 obtain ⟨b,o,e,hlt,hc⟩:=h.2 hn
 exact ⟨b,o,e,by omega,hc⟩⟩
theorem Rd.on (h:Rd f w w.heap.size A n l) (hb:Below w.heap.size w w'):Rd f w' w'.heap.size A n l:=(h.below hb).more hb.size
theorem Rd.alloc (h:Rd f w B A n l) (hB:B≤w.heap.size) (o:Obj):Rd f (w.alloc o) B A n l:=h.below ((Below.refl _ _).alloc hB o)
theorem Rd.drewN (h:Rd f w B A n l) (k:Nat):Rd f (w.drewN k) B A n l:=h
theorem Rd.pre {i:Nat} (h:Rd f w B A n l) (hi:i≤n):Rd f w B A i (l.take i):=by
 refine ⟨by have:=h.1;simp;omega,fun hn=>?_⟩
 obtain ⟨b,o,e,hb,hc⟩:=h.2 (by omega)
 refine ⟨b,o,e,hb,fun j x hx=>hc j x ?_⟩
 rw [List.getElem?_take] at hx
 split at hx
 ·exact hx
 ·cases hx
theorem Ow.of {v:Value} (h:w.ownsRow base e 1 v n (l.map f)):∃A c,v=.slice A n c∧Ow f w base e A n c l:=by
 rcases h.2 with ⟨rfl,rfl⟩|⟨g,cap,cur,rfl,_⟩
 ·exact ⟨none,0,rfl,h⟩
 ·exact ⟨_,cap,rfl,h⟩
theorem Ow.len (h:Ow f w base e A n c l):l.length=n:=by have:=h.1;simpa using this
theorem Ow.rd (h:Ow f w base e A n c l):Rd f w w.heap.size A n l:=by
 refine ⟨h.len,fun hn=>?_⟩
 have hl:=h.len
 rcases h.2 with ⟨_,h0⟩|⟨g,cap,cur,he,_,hg,_,_,_,_⟩
 ·omega
 ·simp only [Value.slice.injEq] at he
  obtain ⟨rfl,_,rfl⟩:=he
  refine ⟨g,0,rfl,?_,fun i x hx=>?_⟩
  ·rcases Nat.lt_or_ge g w.heap.size with hlt|hge
   ·exact hlt
   ·rw [Array.getElem?_eq_none hge] at hg;cases hg
  ·have hi:=(List.getElem?_eq_some_iff.1 hx).1
   rw [Nat.zero_add]
   refine (World.ownsRow.cellAt (g:=g) h i (by omega)).trans ?_
   rw [List.getElem?_map,hx]
   rfl
theorem Ow.below (h:Ow f w base e A n c l) (hb:Below w.heap.size w w'):Ow f w' base e A n c l:=by
 refine ⟨h.1,?_⟩
 rcases h.2 with h0|⟨g,cap,cur,h1,h2,h3,h4⟩
 ·exact .inl h0
 ·refine .inr ⟨g,cap,cur,h1,h2,?_,h4⟩
  rw [hb.block g ?_]
  ·exact h3
  ·rcases Nat.lt_or_ge g w.heap.size with hlt|hge
   ·exact hlt
   ·rw [Array.getElem?_eq_none hge] at h3;cases h3
theorem Ow.alloc (h:Ow f w base e A n c l) (o:Obj):Ow f (w.alloc o) base e A n c l:=h.below ((Below.refl _ _).alloc (Nat.le_refl _) o)
theorem Ow.drewN (h:Ow f w base e A n c l) (k:Nat):Ow f (w.drewN k) base e A n c l:=h
theorem Ow.drew (h:Ow f w base e A n c l):Ow f w.drew base e A n c l:=h
theorem Ow.rebase {b':Nat} (h:Ow f w base e A n c l) (hb:b'≤base):Ow f w b' e A n c l:=by
 refine ⟨h.1,?_⟩
 rcases h.2 with h0|⟨g,cap,cur,h1,h2,h3⟩
 ·exact .inl h0
 ·exact .inr ⟨g,cap,cur,h1,Nat.le_trans hb h2,h3⟩
theorem Ow.cap (h:Ow f w base e A n c l):n≤c:=by
 rcases h.2 with ⟨h0,h1⟩|⟨g,cap,cur,h1,_,_,h4,_⟩
 ·omega
 ·cases h1;exact h4
theorem Ow.at_ (h:Ow f w base e A n c l) (hn:0 < n):∃g,A=some ⟨g,0,none⟩∧base≤g∧g < w.heap.size∧(∀i x,l[i]?=some x→w.cell? ⟨g,i,none⟩=some (f x))∧∀i,w.frozen? ⟨g,i,none⟩=false:=by
 rcases h.2 with ⟨_,h1⟩|⟨g,cap,cur,h1,h2,h3,h4⟩
 ·omega
 ·have hrd:=h.rd.2 hn
  cases h1
  obtain ⟨b,o,e1,hlt,hc⟩:=hrd
  cases e1
  refine ⟨_,rfl,h2,hlt,fun i x hx=>?_,fun i=>frozen_of_row w _ i _ e h3⟩
  have:=hc i x hx
  rwa [Nat.zero_add] at this
theorem Ow.set_ {g p:Nat} {u:Value} {y:α} (h:Ow f w base e (some ⟨g,0,none⟩) n c l) (hu:u=f y):Ow f (w.setCell ⟨g,p,none⟩ u) base e (some ⟨g,0,none⟩) n c (l.set p y):=by
 subst hu
 unfold Ow
 rw [List.map_set]
 exact (World.ownsRow.stored h p (f y)).1
theorem Ow.nil_ (f:α→Value) (w:World) (base e:Nat):Ow f w base e none 0 0 []:=World.ownsRow_nil _ _ _ _
theorem Ow.empty (f:α→Value) (w:World) (e:Nat):Ow f (w.alloc (.cells #[] e)) w.heap.size e (some ⟨w.heap.size,0,none⟩) 0 0 []:=World.ownsRow_lit w #[] 0 (Nat.le_refl _) (by simp [maxLen]) (by simp)
theorem Ow.lit (w:World) (e:Nat) {cs:List Value} {l:List α} {n:Nat} (h:cs=l.map f) (hn:l.length=n) (hm:n≤140737488355328):Ow f (w.alloc (.cells cs.toArray e)) w.heap.size e (some ⟨w.heap.size,0,none⟩) n n l:=by
 subst hn
 subst h
 have:=World.ownsRow_lit (base:=w.heap.size) (size:=1) (e:=e) w (l.map f).toArray l.length (Nat.le_refl _) (by simp only [maxLen];omega) (by simp)
 simpa [Ow] using this
theorem Ow.cut {i:Nat} (h:Ow f w base e A n c l) (hi:i≤n) (hA:A≠none):Ow f w base e A i c (l.take i):=by
 have hl:=h.len
 refine ⟨by simp;omega,?_⟩
 rcases h.2 with ⟨h0,h1⟩|⟨g,cap,cur,h1,h2,h3,h4,h5,h6,h7⟩
 ·cases h0;exact absurd rfl hA
 ·cases h1
  refine .inr ⟨g,_,cur,rfl,h2,h3,by omega,h5,h6,?_⟩
  rw [List.map_take,←h7,List.take_take]
  congr 1
  omega
end

def ORet (f:α→Value) (w:World) (e n:Nat) (l:List α) (x:Ending) (w':World):Prop:=∃A c,x=.returned (.slice A n c)∧Ow f w' w.heap.size e A n c l∧Below w.heap.size w w'
theorem Ow.ret {w w':World} {e n c:Nat} {A:Option Addr} {l:List α} (h:Ow f w' w.heap.size e A n c l) (hb:Below w.heap.size w w'):ORet f w e n l (.returned (.slice A n c)) w':=⟨A,c,rfl,h,hb⟩

theorem map_one (h1:∀x,(f x).oneCell'=true) (l:List α):∀u∈l.map f,u.oneCell'=true:=by
 intro u hu
 obtain ⟨x,_,rfl⟩:=List.mem_map.1 hu
 exact h1 x
theorem run_append_Rd {P : Program} (w : World) (base : Nat) (t ty e : TypeId) (z : Value) (k : Nat) (ht : P.underlying t = some (.slice e)) (hinfo : (P.info? e).map (fun i => (i.zero, i.size, i.bytes)) = some (some z, 1, k)) (hzs : z.cells.size = 1)
  (h1:∀x,(f x).oneCell'=true)
  (v:Value) (n:Nat) (l0:List α) (hown:w.ownsRow base e 1 v n (l0.map f)) (B:Nat) (A:Option Addr) (m c:Nat) (l1:List α) (hb:Rd f w B A m l1)
  (hbytes:(n+m)*k≤140737488355328) (hnm:n+m≤140737488355328) (hbase:base≤w.heap.size) :
  ∃v' w',(Builtin.append_ #[t,t] ty #[v,.slice A m c]).run P w=.ok v' w'∧w'.ownsRow base e 1 v' (n+m) ((l0++l1).map f)∧Below base w w':=by
 obtain ⟨i,hi,hz,hsz,hby⟩:=info_parts hinfo
 rw [List.map_append]
 cases A with
 | none =>
  have hm:m=0:=by
   rcases Nat.eq_zero_or_pos m with h0|h0
   ·exact h0
   ·obtain ⟨_,_,h,_⟩:=hb.2 h0;cases h
  subst hm
  obtain rfl:l1=[]:=List.eq_nil_of_length_eq_zero hb.1
  exact ⟨v,w,run_append_nil0 w base t ty e i 1 ht hi v n _ hown c,by simpa using hown,Below.refl _ _⟩
 | some ad =>
  have hcells:∀j u,(l1.map f)[j]?=some u→w.cell? (ad.add j)=some u:=by
   intro j u hu
   rw [List.getElem?_map,Option.map_eq_some_iff] at hu
   obtain ⟨x,hx,rfl⟩:=hu
   have hj:j < l1.length:=(List.getElem?_eq_some_iff.1 hx).1
   obtain ⟨b,o,e,_,hc⟩:=hb.2 (by have:=hb.1;omega)
   injection e with e
   subst e
   rw [←hc j x hx]
   congr 1
   unfold Addr.add
   split
   ·rename_i h0;subst h0;rfl
   ·rfl
  obtain ⟨v', w', hr, h2, h3, _⟩ := run_append_own (P := P) w base t ty e i z 1 k ht hi hz hsz hby hzs (by omega) v n _ hown ad m c (l1.map f) (by rw [List.length_map]; have := hb.1; omega) hcells (map_one h1 _)
   (by simp only [maxLen];omega) hbytes hbase
  exact ⟨v',w',hr,h2,Below.of_grown_own hown h3 hbase⟩
theorem wpList_append_Rd {P : Program} (w : World) {ops : Array Oper} {rest : List Oper} {o : Oper} {a : Act} {Q : Exit → Act → World → Prop} (hgd : o.guard = none) (s x : Operand) (t : TypeId)
  (ho:o.op=.call {callee:=.builtin .append,args:=#[s,x],argTypes:=#[t,t]})
  (base:Nat) (e:TypeId) (z:Value) (k:Nat) (ht:P.underlying t=some (.slice e)) (hinfo:(P.info? e).map (fun i=>(i.zero,i.size,i.bytes))=some (some z,1,k)) (hzs:z.cells.size=1)
  (h1:∀x,(f x).oneCell'=true)
  (A0:Option Addr) (n c0:Nat) (l0:List α) (hs:a.eval s=.slice A0 n c0) (hown:Ow f w base e A0 n c0 l0) (B:Nat) (A:Option Addr) (m c:Nat) (l1:List α) (hx:a.eval x=.slice A m c) (hb:Rd f w B A m l1)
  (N:Nat) (hN:n+m=N) (hbytes:N*k≤140737488355328) (hnm:N≤140737488355328) (hbase:base≤w.heap.size)
  (h:∀A' c' w',Ow f w' base e A' N c' (l0++l1)→Below base w w'→wpList P ops Q rest (a.put o.dst (.slice A' N c')) w'):wpList P ops Q (o::rest) a w:=by
 subst hN
 refine wpList_plain hgd fun K hK=>?_
 obtain ⟨v',w',hr,h2,h3⟩:=run_append_Rd (P:=P) w base t o.type e z k ht hinfo hzs h1 _ n l0 hown B A m c l1 hb hbytes hnm hbase
 unfold Oper.wp execOp
 simp only [ho,resolve,invoke,builtin,Sem.run_bind,Sem.run_pure,Result.andThen_ok,List.map_toArray,List.map_cons,List.map_nil,hs,hx,hr]
 obtain ⟨A',c',rfl,h4⟩:=Ow.of h2
 exact hK _ _ (h A' c' w' h4 h3)
theorem Rd.lit (w:World) (t:TypeId) {cs:List Value} {l:List α} {n:Nat} (h:cs=l.map f) (hn:l.length=n):Rd f (w.alloc (.cells cs.toArray t)) (w.heap.size+1) (some ⟨w.heap.size,0,none⟩) n l:=by
 subst hn
 subst h
 refine ⟨rfl,fun _=>⟨_,_,rfl,by omega,fun i x hx=>?_⟩⟩
 rw [Nat.zero_add,(RowL.new w t (l.map f)).cell,List.getElem?_map,hx]
 rfl
theorem Rd.one (w:World) (t:TypeId) {u:Value} {x:α} (h:u=f x):Rd f (w.alloc (.cells #[u] t)) (w.heap.size+1) (some ⟨w.heap.size,0,none⟩) 1 [x] :=
 Rd.lit w t (cs:=[u]) (by rw [h];rfl) rfl
end Go.Proofs.YtpndfahgflgocaaGreatDoor

namespace Go.Proofs.YtpndfahgflgocaaGreatDoor
open Go.RowKit

def BoolB (w:World) (b:Bool) (x:Ending) (w':World):Prop:=x=.returned (.bool b)∧Below w.heap.size w w'
theorem BoolB.of {w w':World} {b:Bool} (h:Below w.heap.size w w'):BoolB w b (.returned (.bool b)) w':=⟨rfl,h⟩
theorem BoolB.eq {w w':World} {a b:Bool} (e:a=b) (h:Below w.heap.size w w'):BoolB w b (.returned (.bool a)) w':=⟨by rw [e],h⟩

theorem below_bytesWorld (w:World) (e:TypeId) (s:ByteArray):Below w.heap.size w (Lib.bytesWorld w e s) :=
 ⟨rfl,rfl,rfl,by rw [Lib.bytesWorld_size];omega,fun k hk=>Lib.bytesWorld_at_old w e s k hk⟩
theorem Bs.bytesWorld (w:World) (e:TypeId) (l:List UInt8):Bs (Lib.bytesWorld w e ⟨l.toArray⟩) (w.heap.size+1) (some ⟨w.heap.size,0,none⟩) l.length l:=by
 refine ⟨rfl,fun _=>⟨_,_,rfl,by omega,fun i x hx=>?_⟩⟩
 have hi:=(List.getElem?_eq_some_iff.1 hx).1
 rw [Nat.zero_add,Lib.bytesWorld_cell w e ⟨l.toArray⟩ i (by simpa [ByteArray.size] using hi)]
 simp only [List.getD,hx,Option.getD_some,bv]

end Go.Proofs.YtpndfahgflgocaaGreatDoor

