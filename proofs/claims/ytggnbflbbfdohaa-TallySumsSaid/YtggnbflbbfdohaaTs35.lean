import Derived.Test.YtggnbflbbfdohaaTs34
import Derived.Test.YtggnbflbbfdohaaTs32
import Derived.Test.YtggnbflbbfdohaaTs26
import Derived.Test.YtggnbflbbfdohaaTs23
import Derived.Test.YtggnbflbbfdohaaTs31
import Derived.BigQuiet
import Derived.Deep.QuietTactic
import Derived.Lib.Join
import Derived.Shelf.Small.Strs
import Derived.Shelf.Small.Wraps
import Derived.Shelf.Strings.Prefix
import Derived.Shelf.Slices.Equal
import Derived.Shelf.Slices.Clone
import Derived.Shelf.Slices.Cells
import Derived.Shelf.SlicesE.Clone
import Derived.Test.YtggnbflbbfdohaaProg
import Derived.Test.YtggnbflbbfdohaaTs3
import Derived.Test.YtggnbflbbfdohaaRows
import Derived.IntWalk
import Derived.Laws.Cover3
import Derived.Test.YtggnbflbbfdohaaTs1
import Derived.Lib.SlicesCompact
import Derived.Sort.Row
import Derived.Sort.OwnSorted
import Derived.Lib.RowBridge
import Derived.Test.YtggnbflbbfdohaaTs13
import Derived.Test.YtggnbflbbfdohaaTs30
import Derived.WalkMore
import Derived.ScopeJumps
import Derived.Test.YtggnbflbbfdohaaTs29

namespace Go.Proofs.Ytggnbflbbfdohaa
open Go.RowKit Go.Shelf Plain

def clO : Nat → Int
 | 0=>8
 | 1=>13
 | _=>14
def ClW (w:World):Prop:=∀j,j < 3→w.cell? ⟨0,j,none⟩=some (.int .i64 (clO j))
theorem ClW.lt {w:World} (h:ClW w):0 < w.heap.size:=block_lt_of_cell (h 0 (by omega))
theorem ClW.below {w w':World} (h:ClW w) (hb:Below w.heap.size w w'):ClW w':=fun j hj=>(hb.cell (p:=⟨0,j,none⟩) h.lt).trans (h j hj)
def RchR (w:World) (lo hi:Nat) (A:Option Addr) (n:Nat) (rs:List Bool):Prop:=(rs.length=n∧(0 < n→∃b o,A=some ⟨b,o,none⟩∧lo≤b∧b < hi∧∀i x,rs[i]?=some x→w.cell? ⟨b,o+i,none⟩=some (.bool x)))∧hi≤w.heap.size
theorem rch_on {w w':World} {lo hi n:Nat} {A:Option Addr} {rs:List Bool} (h:RchR w lo hi A n rs) (hb:Below w.heap.size w w'):RchR w' lo hi A n rs:=⟨⟨h.1.1,fun hn=>by
 obtain ⟨b,o,e,h1,h2,hc⟩:=h.1.2 hn
 exact ⟨b,o,e,h1,h2,fun i x hx=>(cell_same (hb.block b (Nat.lt_of_lt_of_le h2 h.2))).trans (hc i x hx)⟩⟩,Nat.le_trans h.2 hb.size⟩
theorem rch_grown {w w':World} {lo hi n g:Nat} {A:Option Addr} {rs:List Bool} (h:RchR w lo hi A n rs) (hg:w.grownBy w' (some g)) (hne:g < lo∨hi≤g):RchR w' lo hi A n rs:=⟨⟨h.1.1,fun hn=>by
 obtain ⟨b,o,e,h1,h2,hc⟩:=h.1.2 hn
 exact ⟨b,o,e,h1,h2,fun i x hx=>(cell_same (hg.block b (Nat.lt_of_lt_of_le h2 h.2) (pu5 (by omega)))).trans (hc i x hx)⟩⟩,Nat.le_trans h.2 hg.size⟩
theorem rch_rd {w:World} {lo hi n:Nat} {A:Option Addr} {rs:List Bool} (h:RchR w lo hi A n rs):Rd Value.bool w w.heap.size A n rs:=⟨h.1.1,fun hn=>by
 obtain ⟨b,o,e,h1,h2,hc⟩:=h.1.2 hn
 exact ⟨b,o,e,Nat.lt_of_lt_of_le h2 h.2,hc⟩⟩
def ReachO (w:World) (rs:List Bool) (e:Ending) (w':World):Prop:=∃A n c lo hi,e=.returned (.slice A n c)∧w.heap.size≤lo∧RchR w' lo hi A n rs∧Below w.heap.size w w'
theorem nod_cells {w:World} {D:Nat→Prop} {A:Option Addr} {n i:Nat} {l:List NodV} {x:NodV} (h:RdE nodEn w D A n l) (hx:l[i]?=some x):∃b o A0 n0 k0 C0 m0 d0,A=some ⟨b,o,none⟩∧D b∧∀k v,(nodC x (.slice A0 n0 k0) (.slice C0 m0 d0))[k]?=some v→w.cell? ⟨b,o+i*13+k,none⟩=some v:=by
 have hj:i < l.length:=(List.getElem?_eq_some_iff.1 hx).1
 obtain ⟨b,o,e,hD,hc⟩:=h.2 (by have:=h.1;omega)
 obtain ⟨cs,⟨A0,n0,k0,C0,m0,d0,rfl,-⟩,hcs⟩:=hc i x hx
 exact ⟨b,o,A0,n0,k0,C0,m0,d0,e,hD,fun k v hv=>by have h1:=hcs k v hv;rw [show nodEn.k=13 from rfl,←Nat.add_assoc] at h1;exact h1⟩
theorem rd_cell {w:World} {B b o n:Nat} {rs:List Bool} (h:Rd Value.bool w B (some ⟨b,o,none⟩) n rs) {i:Nat} {r:Bool} (hi:rs[i]?=some r):w.cell? ⟨b,o+i,none⟩=some (.bool r):=by
 obtain ⟨b',o',e,-,hc⟩:=h.2 (by have:=(List.getElem?_eq_some_iff.1 hi).1;have:=h.1;omega)
 cases e
 exact hc i r hi
theorem rd_some {w:World} {B n:Nat} {A:Option Addr} {rs:List Bool} (h:Rd Value.bool w B A n rs) (hn:0 < n):∃b o,A=some ⟨b,o,none⟩:=by
 obtain ⟨b',o',e,-⟩:=h.2 hn
 exact ⟨b',o',e⟩
theorem rde_some {α:Type} {E:Enc α} {w:World} {D:Nat→Prop} {n:Nat} {A:Option Addr} {l:List α} (h:RdE E w D A n l) (hn:0 < n):∃b o,A=some ⟨b,o,none⟩:=by
 obtain ⟨b',o',e,-⟩:=h.2 hn
 exact ⟨b',o',e⟩
end Go.Proofs.Ytggnbflbbfdohaa

