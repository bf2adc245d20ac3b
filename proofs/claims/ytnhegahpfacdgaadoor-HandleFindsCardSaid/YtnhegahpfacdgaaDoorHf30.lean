import Derived.Test.YtnhegahpfacdgaaDoorHf11
import Derived.Test.YtnhegahpfacdgaaDoorHf24
import Derived.Test.YtnhegahpfacdgaaDoorHf16
import Derived.Test.YtnhegahpfacdgaaDoorHf17
import Derived.Test.YtnhegahpfacdgaaDoorHf4
import Derived.Test.YtnhegahpfacdgaaDoorHf1
import Derived.Lib.SlicesCompact
import Derived.Sort.Row
import Derived.Sort.OwnSorted
import Derived.Lib.RowBridge
import Derived.BigQuiet
import Derived.Deep.QuietTactic
import Derived.Test.YtnhegahpfacdgaaDoorHf15

namespace Go.Proofs.YtnhegahpfacdgaaDoor
open Go.RowKit
variable {α β : Type} {E : Enc α}

def KeepS (wX:World) (B b o:Nat) (vc:List Value) (W:World):Prop:=Below B wX W∧(∀k,k < wX.heap.size→k≠b→W.heap[k]?=wX.heap[k]?)∧∀k x,vc[k]?=some x→W.cell? ⟨b,o+k,none⟩=some x
theorem KeepS.on {wX W W':World} {B b o:Nat} {vc:List Value} (h:KeepS wX B b o vc W) (hb:Below W.heap.size W W') (hB:B≤wX.heap.size) (hlt:b < wX.heap.size):KeepS wX B b o vc W':=by
 have hs:=h.1.size
 exact ⟨h.1.trans (hb.mono (by omega)),fun k hk hne=>(hb.block k (by omega)).trans (h.2.1 k hk hne),fun k x hx=>(hb.cell (p:=⟨b,o+k,none⟩) (by exact Nat.lt_of_lt_of_le hlt hs)).trans (h.2.2 k x hx)⟩
theorem KeepS.row {wX W:World} {B b o g t:Nat} {vc cs:List Value} (h:KeepS wX B b o vc W) (hr:RowL wX g t cs) (hg:g≠b):RowL W g t cs:=(h.2.1 g hr.lt hg).trans hr
theorem KeepS.rd {α:Type} {E:Enc α} {wX W:World} {B b o:Nat} {vc:List Value} {D:Nat→Prop} {A:Option Addr} {n:Nat} {l:List α} (h:KeepS wX B b o vc W) (hr:RdE E wX D A n l) (hD:∀k,D k→k < wX.heap.size∧k≠b):RdE E W D A n l :=
 hr.mono (fun k hk=>h.2.1 k (hD k hk).1 (hD k hk).2) (fun _ h=>h)
theorem und_at {α:Type} {E:Enc α} {w w':World} {B C:Nat} {A:Option Addr} {n:Nat} {l:List α} (h:RdE E w (Under B) A n l) (hb:Below C w w') (hBC:B≤C):RdE E w' (Under B) A n l :=
 h.mono (fun b hb'=>hb.block b (by unfold Under at hb';omega)) (fun _ h=>h)
end Go.Proofs.YtnhegahpfacdgaaDoor

namespace Go.Proofs.YtnhegahpfacdgaaDoor
open Go.RowKit Go.Shelf Plain

section
variable {gS gL : Nat} {p : List UInt8 → Bool} {B0 : Nat}
def DelN (p:List UInt8→Bool) (l:List (List UInt8)) (n c g a b:Nat) (W:World):Prop:=∃cs,RowL W g 9 cs∧cs.length=c∧n≤c∧((l.take b).filter (fun x=>!p x)).length=a∧cs.take a=((l.take b).filter (fun x=>!p x)).map st∧∀i x,b≤i→l[i]?=some x→cs[i]?=some (st x)
theorem DelN.on {l:List (List UInt8)} {n c g a b:Nat} {W W':World} (h:DelN p l n c g a b W) (hb:Below W.heap.size W W'):DelN p l n c g a b W':=by
 obtain ⟨cs,h1,h2⟩:=h
 exact ⟨cs,h1.on hb,h2⟩
theorem DelN.put {l:List (List UInt8)} {n c g a b:Nat} {W:World} {x:List UInt8} (h:DelN p l n c g a b W) (hx:l[b]?=some x) (hp:p x=false) (hab:a < b) (hbc:b < c):DelN p l n c g (a+1) (b+1) (W.setCell ⟨g,a,none⟩ (st x)):=by
 obtain ⟨cs,h1,h2,h3,h4,h5,h6⟩:=h
 have e:(l.take (b+1)).filter (fun x=>!p x)=(l.take b).filter (fun x=>!p x)++[x]:=by rw [List.take_add_one,hx,List.filter_append];simp [hp]
 refine ⟨cs.set a (st x),h1.set_ a _,by rw [List.length_set];exact h2,h3,by rw [e,List.length_append,h4];rfl,?_,fun i y hi hy=>?_⟩
 ·rw [e,List.map_append,←h5,List.take_add_one,List.getElem?_set_self (by omega),List.take_set_of_le (Nat.le_refl _)]
  rfl
 ·rw [List.getElem?_set_ne (by omega)]
  exact h6 i y (by omega) hy
end
end Go.Proofs.YtnhegahpfacdgaaDoor

namespace Go.Proofs.YtnhegahpfacdgaaDoor
open Go.RowKit Plain

def PlainX (x:NodV):Prop:=True∧(0≤x.k∧x.k≤4)∧(0≤x.att.h∧x.att.h≤31)∧x.data.length≤300∧x.ents.length≤17∧x.att.r.length≤40∧True
theorem PlainN.toX {x:NodV} (h:PlainN x):PlainX x:=⟨trivial,h.2.1,h.2.2.1,h.2.2.2.1,Nat.le_succ_of_le h.2.2.2.2.1,h.2.2.2.2.2.1,trivial⟩
end Go.Proofs.YtnhegahpfacdgaaDoor

