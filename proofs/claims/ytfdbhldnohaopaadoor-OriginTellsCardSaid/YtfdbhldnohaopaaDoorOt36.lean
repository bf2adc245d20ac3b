import Derived.Test.YtfdbhldnohaopaaDoorOt34
import Derived.Test.YtfdbhldnohaopaaDoorOt25
import Derived.Test.YtfdbhldnohaopaaDoorOt17
import Derived.Test.YtfdbhldnohaopaaDoorProg
import Derived.Lib.Bytealg
import Derived.Lib.CutLaws
import Derived.Lib.Join
import Derived.Shelf.Small.Wraps
import Derived.Shelf.Small.Strs
import Derived.Shelf.Strings.Prefix
import Derived.Shelf.Slices.Clone
import Derived.Shelf.Slices.CompactS
import Derived.Shelf.Slices.Cells
import Derived.IntWalk
import Derived.Test.YtfdbhldnohaopaaDoorOt2
import Derived.Test.YtfdbhldnohaopaaDoorOt16
import Derived.ScopeJumps
import Derived.WalkMore
import Derived.Test.YtfdbhldnohaopaaDoorOt18
import Derived.BigQuiet
import Derived.Deep.QuietTactic
import Derived.Test.YtfdbhldnohaopaaDoorRows
import Derived.Laws.Cover3
import Derived.Test.YtfdbhldnohaopaaDoorOt1
import Derived.Lib.SlicesCompact
import Derived.Sort.Row
import Derived.Sort.OwnSorted
import Derived.Lib.RowBridge
import Derived.Test.YtfdbhldnohaopaaDoorOt9
import Derived.Test.YtfdbhldnohaopaaDoorOt23
import Derived.Test.YtfdbhldnohaopaaDoorOt28
import Derived.Test.YtfdbhldnohaopaaDoorOt24

namespace Go.Proofs.YtfdbhldnohaopaaDoor
open Go.RowKit Go.Shelf Plain

def FinsP (w:World) (n:Nat) (l:List FinV) (e:Ending) (w':World):Prop:=∃A c,e=.returned (.slice A n c)∧RdE finEn w' (Under w'.heap.size) A n l∧Below w.heap.size w w'
theorem FinsO.p {w w':World} {l:List FinV} {n:Nat} {e:Ending} (h:FinsO w l e w') (hn:l.length=n):FinsP w n l e w':=by
 obtain ⟨A,m,c,h1,h2,h3⟩:=h
 obtain rfl:n=m:=by rw [←hn];exact h2.1
 exact ⟨A,c,h1,h2,h3⟩
end Go.Proofs.YtfdbhldnohaopaaDoor

