import Derived.Test.YtfdbhldnohaopaaDoorOn24
import Derived.Test.YtfdbhldnohaopaaDoorProg
import Derived.Lib.Bytealg
import Derived.Lib.CutLaws
import Derived.Lib.Join
import Derived.Shelf.Small.Wraps
import Derived.Shelf.Small.Strs
import Derived.Shelf.Strings.Prefix
import Derived.Shelf.Slices.Clone
import Derived.Shelf.Slices.CompactS
import Derived.Shelf.Slices.Cells
import Derived.Test.YtfdbhldnohaopaaDoorOn19
import Derived.Test.YtfdbhldnohaopaaDoorOn1
import Derived.Lib.SlicesCompact
import Derived.Sort.Row
import Derived.Sort.OwnSorted
import Derived.Lib.RowBridge
import Derived.BigQuiet
import Derived.Deep.QuietTactic
import Derived.Test.YtfdbhldnohaopaaDoorOn11
import Derived.Test.YtfdbhldnohaopaaDoorOn25
import Derived.IntWalk
import Derived.Test.YtfdbhldnohaopaaDoorOn3
import Derived.ScopeJumps
import Derived.WalkMore
import Derived.Test.YtfdbhldnohaopaaDoorOn26
import Derived.Test.YtfdbhldnohaopaaDoorRows
import Derived.Laws.Cover3
import Derived.Test.YtfdbhldnohaopaaDoorOn22
import Derived.Test.YtfdbhldnohaopaaDoorOn28
import Derived.BigRegion
import Derived.Test.YtfdbhldnohaopaaDoorOn7

namespace Go.Proofs.YtfdbhldnohaopaaDoor
open Go.RowKit Go.Shelf Plain

theorem hcell {w w':World} {b o:Nat} {cs:List Value} (h:∀k x,cs[k]?=some x→w.cell? ⟨b,o+k,none⟩=some x) {B:Nat} (hb:Below B w w') (hlt:b < B):∀k x,cs[k]?=some x→w'.cell? ⟨b,o+k,none⟩=some x:=fun k x hx=>(hb.cell (p:=⟨b,o+k,none⟩) hlt).trans (h k x hx)
end Go.Proofs.YtfdbhldnohaopaaDoor

namespace Go.Proofs.YtfdbhldnohaopaaDoor
open Go.RowKit Go.Shelf Plain

def TreeF (w:World) (ws:List WayV) (vs:List ViewV) (e:Ending) (w':World):Prop:=∃A c A' c',e=.returned (.tuple #[.slice A ws.length c,.slice A' vs.length c'])∧RdE wayEn w' (fun b=>w.heap.size≤b∧b < w'.heap.size) A ws.length ws∧RdE viewEn w' (Under w'.heap.size) A' vs.length vs∧Below w.heap.size w w'
end Go.Proofs.YtfdbhldnohaopaaDoor

namespace Go.Proofs.YtfdbhldnohaopaaDoor
open Go.RowKit Go.Shelf Plain

theorem OwE.lt {α:Type} {E:Enc α} {w:World} {base e n c:Nat} {A:Option Addr} {l:List α} (h:OwE E w base e A n c l):∀a,A=some a→a.block < w.heap.size:=by
 obtain ⟨css,hrow,-,-⟩:=h
 intro a ha
 subst ha
 rcases hrow.2 with ⟨h0,-⟩|⟨g,cap,cur,h0,-,hg,-⟩
 ·cases h0
 ·cases h0
  exact (Array.getElem?_eq_some_iff.1 hg).1
theorem KeepS.cell {wX W:World} {B b o:Nat} {vc:List Value} (h:KeepS wX B b o vc W) {p:Addr} (hp:p.block < wX.heap.size) (hne:p.block≠b):W.cell? p=wX.cell? p:=World.cell?_of_block (w:=wX) (h.2.1 p.block hp hne)
end Go.Proofs.YtfdbhldnohaopaaDoor

namespace Go.Proofs.YtfdbhldnohaopaaDoor
open Go.RowKit Go.Shelf Plain

def TreeP (w:World) (n:Nat) (ws:List WayV) (vs:List ViewV) (e:Ending) (w':World):Prop:=∃A c A' c',e=.returned (.tuple #[.slice A n c,.slice A' n c'])∧RdE wayEn w' (fun b=>w.heap.size≤b∧b < w'.heap.size) A n ws∧RdE viewEn w' (Under w'.heap.size) A' n vs∧Below w.heap.size w w'
theorem TreeF.p {w w':World} {ws:List WayV} {vs:List ViewV} {n:Nat} {e:Ending} (h:TreeF w ws vs e w') (h1:ws.length=n) (h2:vs.length=n):TreeP w n ws vs e w':=by
 obtain ⟨A,c,A',c',he,ha,hb,hbl⟩:=h
 rw [h1] at he ha
 rw [h2] at he hb
 exact ⟨A,c,A',c',he,ha,hb,hbl⟩
end Go.Proofs.YtfdbhldnohaopaaDoor

namespace Go.Proofs.YtfdbhldnohaopaaDoor
open Go.RowKit Go.Shelf Plain

theorem enc_lit1 {α:Type} {E:Enc α} {x:α} {cs:List Value} (hR:∀w D,E.R w D cs x) (W:World) (t:Nat) {lo:Nat} (hlo:lo≤W.heap.size):RdE E (W.alloc (.cells cs.toArray t)) (fun b=>lo≤b∧b < (W.alloc (.cells cs.toArray t)).heap.size) (some ⟨W.heap.size,0,none⟩) 1 [x]:=by
 refine ⟨rfl,fun _=>⟨_,_,rfl,⟨hlo,by simp⟩,fun i y hy=>⟨cs,?_,fun j v hv=>?_⟩⟩⟩
 ·have hi:i=0:=by have:=(List.getElem?_eq_some_iff.1 hy).1;simpa using this
  subst hi
  obtain rfl:x=y:=by simpa using hy
  exact hR _ _
 ·have hi:i=0:=by have:=(List.getElem?_eq_some_iff.1 hy).1;simpa using this
  subst hi
  rw [Nat.zero_mul,Nat.zero_add,Nat.zero_add,(RowL.new W t cs).cell]
  exact hv
end Go.Proofs.YtfdbhldnohaopaaDoor

namespace Go.Proofs.YtfdbhldnohaopaaDoor
open Go.RowKit
variable {α : Type} {E : Enc α}

theorem OwE.up [Tags] {w:World} {base b' e n c:Nat} {A:Option Addr} {l:List α} (h:OwE E w base e A n c l) (hb:∀a,A=some a→b'≤a.block):OwE E w b' e A n c l:=by
 obtain ⟨css,⟨h1,h2⟩,h3⟩:=h
 refine ⟨css,⟨h1,?_⟩,h3⟩
 rcases h2 with h2|⟨g,cap,cur,he,hbg,hr⟩
 ·exact .inl h2
 ·refine .inr ⟨g,cap,cur,he,?_,hr⟩
  simp only [Value.slice.injEq] at he
  exact hb _ he.1
def OwL [Tags] (E:Enc α) (w:World) (base lo e:Nat) (A:Option Addr) (n c:Nat) (l:List α):Prop:=OwE E w lo e A n c l∨∃p,A=some ⟨p,0,none⟩∧n=0∧c=0∧l=[]∧OwE E w base e (some ⟨p,0,none⟩) 0 0 []
theorem OwL.below [Tags] {w w':World} {base lo e n c:Nat} {A:Option Addr} {l:List α} (h:OwL E w base lo e A n c l) (hb:Below w.heap.size w w'):OwL E w' base lo e A n c l:=by
 rcases h with h|⟨p,h1,h2,h3,h4,h5⟩
 ·exact .inl (h.below hb)
 ·exact .inr ⟨p,h1,h2,h3,h4,h5.below hb⟩
theorem OwL.read [Tags] {w:World} {base lo e n c:Nat} {A:Option Addr} {l:List α} (h:OwL E w base lo e A n c l) (ht:Tags.bad e=false):RdE E w (Under w.heap.size) A n l:=by
 rcases h with h|⟨p,rfl,rfl,rfl,rfl,-⟩
 ·exact (h.rd ht).plain
 ·exact RdE.none_ _ _ _ _
theorem OwL.len [Tags] {w:World} {base lo e n c:Nat} {A:Option Addr} {l:List α} (h:OwL E w base lo e A n c l):l.length=n:=by
 rcases h with h|⟨p,rfl,rfl,rfl,rfl,-⟩
 ·exact h.len
 ·rfl
end Go.Proofs.YtfdbhldnohaopaaDoor

namespace Go.Proofs.YtfdbhldnohaopaaDoor
open Go.RowKit Go.Shelf Plain

theorem finW_info:(Tryd.prog.info? 44).map (fun i=>(i.zero,i.size,i.bytes))=some (some (.agg #[.int .i64 0,.int .i64 0,.int .i64 0,.int .i64 0]),4,32):=by kernel_rfl
theorem litW_fin (a b c d:Int) (W:World):(Instr.buildSlice 42 1 #[(0,.agg #[.int .i64 a,.int .i64 b,.int .i64 c,.int .i64 d])]).run Tryd.prog W=.ok (.slice (some ⟨W.heap.size,0,none⟩) 1 1) (W.alloc (.cells #[.int .i64 a,.int .i64 b,.int .i64 c,.int .i64 d] 44)):=by
 obtain ⟨it,hi,hz,hsz,-⟩:=info_parts finW_info
 refine run_buildSlice W _ 44 1 _ _ it (.agg #[.int .i64 0,.int .i64 0,.int .i64 0,.int .i64 0]) Tryd.underlying42 hi hz (by omega) (by omega) ?_
 rw [hsz]
 have:=Great.fill_whole (s:=4) (by omega) [.agg #[.int .i64 a,.int .i64 b,.int .i64 c,.int .i64 d]] ((Array.range (1*4)).map ((Value.agg #[.int .i64 0,.int .i64 0,.int .i64 0,.int .i64 0]).cells[· % (Value.agg #[.int .i64 0,.int .i64 0,.int .i64 0,.int .i64 0]).cells.size]!)) (by intro v hv;rw [List.mem_singleton] at hv;subst hv;simp [Value.cells]) (by simp)
 simpa [Value.cells] using this
def FinsO (w:World) (l:List FinV) (e:Ending) (w':World):Prop:=∃A n c,e=.returned (.slice A n c)∧RdE finEn w' (Under w'.heap.size) A n l∧Below w.heap.size w w'
end Go.Proofs.YtfdbhldnohaopaaDoor

