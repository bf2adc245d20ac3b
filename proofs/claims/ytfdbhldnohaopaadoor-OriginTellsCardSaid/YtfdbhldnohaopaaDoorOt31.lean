import Derived.Test.YtfdbhldnohaopaaDoorOt23
import Derived.Test.YtfdbhldnohaopaaDoorProg
import Derived.Lib.Bytealg
import Derived.Lib.CutLaws
import Derived.Lib.Join
import Derived.Shelf.Small.Wraps
import Derived.Shelf.Small.Strs
import Derived.Shelf.Strings.Prefix
import Derived.Shelf.Slices.Clone
import Derived.Shelf.Slices.CompactS
import Derived.Shelf.Slices.Cells
import Derived.Test.YtfdbhldnohaopaaDoorOt18
import Derived.Test.YtfdbhldnohaopaaDoorOt1
import Derived.Lib.SlicesCompact
import Derived.Sort.Row
import Derived.Sort.OwnSorted
import Derived.Lib.RowBridge
import Derived.Test.YtfdbhldnohaopaaDoorOt17
import Derived.BigQuiet
import Derived.Deep.QuietTactic
import Derived.Test.YtfdbhldnohaopaaDoorOt9
import Derived.Test.YtfdbhldnohaopaaDoorOt25
import Derived.IntWalk
import Derived.Test.YtfdbhldnohaopaaDoorOt2
import Derived.Test.YtfdbhldnohaopaaDoorOt16
import Derived.ScopeJumps
import Derived.WalkMore
import Derived.Test.YtfdbhldnohaopaaDoorRows
import Derived.Laws.Cover3
import Derived.Test.YtfdbhldnohaopaaDoorOt28
import Derived.Test.YtfdbhldnohaopaaDoorOt26

namespace Go.Proofs.YtfdbhldnohaopaaDoor
open Go.RowKit Go.Shelf Plain

theorem hcell {w w':World} {b o:Nat} {cs:List Value} (h:∀k x,cs[k]?=some x→w.cell? ⟨b,o+k,none⟩=some x) {B:Nat} (hb:Below B w w') (hlt:b < B):∀k x,cs[k]?=some x→w'.cell? ⟨b,o+k,none⟩=some x:=fun k x hx=>(hb.cell (p:=⟨b,o+k,none⟩) hlt).trans (h k x hx)
end Go.Proofs.YtfdbhldnohaopaaDoor

namespace Go.Proofs.YtfdbhldnohaopaaDoor
open Go.RowKit Go.Shelf Plain

def TreeF (w:World) (ws:List WayV) (vs:List ViewV) (e:Ending) (w':World):Prop:=∃A c A' c',e=.returned (.tuple #[.slice A ws.length c,.slice A' vs.length c'])∧RdE wayEn w' (fun b=>w.heap.size≤b∧b < w'.heap.size) A ws.length ws∧RdE viewEn w' (Under w'.heap.size) A' vs.length vs∧Below w.heap.size w w'
end Go.Proofs.YtfdbhldnohaopaaDoor

