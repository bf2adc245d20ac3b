import Derived.Test.YtpndfahgflgocaaDoorXn1
import Derived.Lib.ConvBytes
import Derived.Lib.BufferWrite

namespace Go.Proofs.YtpndfahgflgocaaDoor
open Go.RowKit
variable {α : Type} {f : α → Value}

def Rd (f:α→Value) (w:World) (B:Nat) (A:Option Addr) (n:Nat) (l:List α):Prop :=
 l.length=n∧(0 < n→∃b o,A=some ⟨b,o,none⟩∧b < B∧∀i x,l[i]?=some x→w.cell? ⟨b,o+i,none⟩=some (f x))
def Ow (f:α→Value) (w:World) (base e:Nat) (A:Option Addr) (n c:Nat) (l:List α):Prop:=w.ownsRow base e 1 (.slice A n c) n (l.map f)

section
variable {w w' : World} {B B' n c base e : Nat} {A : Option Addr} {l : List α}
theorem Rd.none_ (f:α→Value) (w:World) (B:Nat) (A:Option Addr):Rd f w B A 0 []:=⟨rfl,fun h=>absurd h (by omega)⟩
theorem Rd.len (h:Rd f w B A n l):l.length=n:=h.1
theorem Rd.below (h:Rd f w B A n l) (hb:Below B w w'):Rd f w' B A n l:=⟨h.1,fun hn=>by
 obtain ⟨b,o,e,hlt,hc⟩:=h.2 hn
 exact ⟨b,o,e,hlt,fun i x hx=>(hb.cell hlt).trans (hc i x hx)⟩⟩
theorem Rd.more (h:Rd f w B A n l) (hB:B≤B'):Rd f w B' A n l:=⟨h.1,fun hn=>by
 obtain ⟨b,o,e,hlt,hc⟩:=h.2 hn
 exact ⟨b,o,e,by omega,hc⟩⟩
theorem Rd.on (h:Rd f w w.heap.size A n l) (hb:Below w.heap.size w w'):Rd f w' w'.heap.size A n l:=(h.below hb).more hb.size
theorem Rd.alloc (h:Rd f w B A n l) (hB:B≤w.heap.size) (o:Obj):Rd f (w.alloc o) B A n l:=h.below ((Below.refl _ _).alloc hB o)
theorem Rd.drewN (h:Rd f w B A n l) (k:Nat):Rd f (w.drewN k) B A n l:=h
theorem Rd.pre {i:Nat} (h:Rd f w B A n l) (hi:i≤n):Rd f w B A i (l.take i):=by
 refine ⟨by have:=h.1;simp;omega,fun hn=>?_⟩
 obtain ⟨b,o,e,hb,hc⟩:=h.2 (by omega)
 refine ⟨b,o,e,hb,fun j x hx=>hc j x ?_⟩
 rw [List.getElem?_take] at hx
 split at hx
 ·exact hx
 ·cases hx
theorem Ow.of {v:Value} (h:w.ownsRow base e 1 v n (l.map f)):∃A c,v=.slice A n c∧Ow f w base e A n c l:=by
 rcases h.2 with ⟨rfl,rfl⟩|⟨g,cap,cur,rfl,_⟩
 ·exact ⟨none,0,rfl,h⟩
 ·exact ⟨_,cap,rfl,h⟩
theorem Ow.len (h:Ow f w base e A n c l):l.length=n:=by have:=h.1;simpa using this
theorem Ow.rd (h:Ow f w base e A n c l):Rd f w w.heap.size A n l:=by
 refine ⟨h.len,fun hn=>?_⟩
 have hl:=h.len
 rcases h.2 with ⟨_,h0⟩|⟨g,cap,cur,he,_,hg,_,_,_,_⟩
 ·omega
 ·simp only [Value.slice.injEq] at he
  obtain ⟨rfl,_,rfl⟩:=he
  refine ⟨g,0,rfl,?_,fun i x hx=>?_⟩
  ·rcases Nat.lt_or_ge g w.heap.size with hlt|hge
   ·exact hlt
   ·rw [Array.getElem?_eq_none hge] at hg;cases hg
  ·have hi:=(List.getElem?_eq_some_iff.1 hx).1
   rw [Nat.zero_add]
   refine (World.ownsRow.cellAt (g:=g) h i (by omega)).trans ?_
   rw [List.getElem?_map,hx]
   rfl
theorem Ow.below (h:Ow f w base e A n c l) (hb:Below w.heap.size w w'):Ow f w' base e A n c l:=by
 refine ⟨h.1,?_⟩
 rcases h.2 with h0|⟨g,cap,cur,h1,h2,h3,h4⟩
 ·exact .inl h0
 ·refine .inr ⟨g,cap,cur,h1,h2,?_,h4⟩
  rw [hb.block g ?_]
  ·exact h3
  ·rcases Nat.lt_or_ge g w.heap.size with hlt|hge
   ·exact hlt
   ·rw [Array.getElem?_eq_none hge] at h3;cases h3
theorem Ow.alloc (h:Ow f w base e A n c l) (o:Obj):Ow f (w.alloc o) base e A n c l:=h.below ((Below.refl _ _).alloc (Nat.le_refl _) o)
theorem Ow.drewN (h:Ow f w base e A n c l) (k:Nat):Ow f (w.drewN k) base e A n c l:=h
theorem Ow.drew (h:Ow f w base e A n c l):Ow f w.drew base e A n c l:=h
theorem Ow.at_ (h:Ow f w base e A n c l) (hn:0 < n):∃g,A=some ⟨g,0,none⟩∧base≤g∧g < w.heap.size∧(∀i x,l[i]?=some x→w.cell? ⟨g,i,none⟩=some (f x))∧∀i,w.frozen? ⟨g,i,none⟩=false:=by
 rcases h.2 with ⟨_,h1⟩|⟨g,cap,cur,h1,h2,h3,h4⟩
 ·omega
 ·have hrd:=h.rd.2 hn
  cases h1
  obtain ⟨b,o,e1,hlt,hc⟩:=hrd
  cases e1
  refine ⟨_,rfl,h2,hlt,fun i x hx=>?_,fun i=>frozen_of_row w _ i _ e h3⟩
  have:=hc i x hx
  rwa [Nat.zero_add] at this
theorem Ow.set_ {g p:Nat} {u:Value} {y:α} (h:Ow f w base e (some ⟨g,0,none⟩) n c l) (hu:u=f y):Ow f (w.setCell ⟨g,p,none⟩ u) base e (some ⟨g,0,none⟩) n c (l.set p y):=by
 subst hu
 unfold Ow
 rw [List.map_set]
 exact (World.ownsRow.stored h p (f y)).1
theorem Ow.nil_ (f:α→Value) (w:World) (base e:Nat):Ow f w base e none 0 0 []:=World.ownsRow_nil _ _ _ _
theorem Ow.empty (f:α→Value) (w:World) (e:Nat):Ow f (w.alloc (.cells #[] e)) w.heap.size e (some ⟨w.heap.size,0,none⟩) 0 0 []:=World.ownsRow_lit w #[] 0 (Nat.le_refl _) (by simp [maxLen]) (by simp)
theorem Ow.lit (w:World) (e:Nat) {cs:List Value} {l:List α} {n:Nat} (h:cs=l.map f) (hn:l.length=n) (hm:n≤140737488355328):Ow f (w.alloc (.cells cs.toArray e)) w.heap.size e (some ⟨w.heap.size,0,none⟩) n n l:=by
 subst hn
 subst h
 have:=World.ownsRow_lit (base:=w.heap.size) (size:=1) (e:=e) w (l.map f).toArray l.length (Nat.le_refl _) (by simp only [maxLen];omega) (by simp)
 simpa [Ow] using this
end

def ORet (f:α→Value) (w:World) (e n:Nat) (l:List α) (x:Ending) (w':World):Prop:=∃A c,x=.returned (.slice A n c)∧Ow f w' w.heap.size e A n c l∧Below w.heap.size w w'
theorem Ow.ret {w w':World} {e n c:Nat} {A:Option Addr} {l:List α} (h:Ow f w' w.heap.size e A n c l) (hb:Below w.heap.size w w'):ORet f w e n l (.returned (.slice A n c)) w':=⟨A,c,rfl,h,hb⟩

theorem Rd.lit (w:World) (t:TypeId) {cs:List Value} {l:List α} {n:Nat} (h:cs=l.map f) (hn:l.length=n):Rd f (w.alloc (.cells cs.toArray t)) (w.heap.size+1) (some ⟨w.heap.size,0,none⟩) n l:=by
 subst hn
 subst h
 refine ⟨rfl,fun _=>⟨_,_,rfl,by omega,fun i x hx=>?_⟩⟩
 rw [Nat.zero_add,(RowL.new w t (l.map f)).cell,List.getElem?_map,hx]
 rfl
theorem Rd.one (w:World) (t:TypeId) {u:Value} {x:α} (h:u=f x):Rd f (w.alloc (.cells #[u] t)) (w.heap.size+1) (some ⟨w.heap.size,0,none⟩) 1 [x] :=
 Rd.lit w t (cs:=[u]) (by rw [h];rfl) rfl
end Go.Proofs.YtpndfahgflgocaaDoor

namespace Go.Proofs.YtpndfahgflgocaaDoor
open Go.RowKit

def BoolB (w:World) (b:Bool) (x:Ending) (w':World):Prop:=x=.returned (.bool b)∧Below w.heap.size w w'
theorem BoolB.of {w w':World} {b:Bool} (h:Below w.heap.size w w'):BoolB w b (.returned (.bool b)) w':=⟨rfl,h⟩
theorem BoolB.eq {w w':World} {a b:Bool} (e:a=b) (h:Below w.heap.size w w'):BoolB w b (.returned (.bool a)) w':=⟨by rw [e],h⟩

theorem Bs.bytesWorld (w:World) (e:TypeId) (l:List UInt8):Bs (Lib.bytesWorld w e ⟨l.toArray⟩) (w.heap.size+1) (some ⟨w.heap.size,0,none⟩) l.length l:=by
 refine ⟨rfl,fun _=>⟨_,_,rfl,by omega,fun i x hx=>?_⟩⟩
 have hi:=(List.getElem?_eq_some_iff.1 hx).1
 rw [Nat.zero_add,Lib.bytesWorld_cell w e ⟨l.toArray⟩ i (by simpa [ByteArray.size] using hi)]
 simp only [List.getD,hx,Option.getD_some,bv]

end Go.Proofs.YtpndfahgflgocaaDoor

