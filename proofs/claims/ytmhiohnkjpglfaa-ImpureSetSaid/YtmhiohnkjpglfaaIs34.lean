import Derived.Test.YtmhiohnkjpglfaaIs31
import Derived.Test.YtmhiohnkjpglfaaIs28
import Derived.Test.YtmhiohnkjpglfaaIs22
import Derived.Test.YtmhiohnkjpglfaaIs21
import Derived.BigQuiet
import Derived.Deep.QuietTactic
import Derived.Lib.Join
import Derived.Test.YtmhiohnkjpglfaaProg
import Derived.Lib.Bytealg
import Derived.Lib.CutLaws
import Derived.Shelf.Small.Wraps
import Derived.Shelf.Small.Strs
import Derived.Shelf.Strings.Prefix
import Derived.Shelf.Slices.Clone
import Derived.Shelf.Slices.CompactS
import Derived.Shelf.Slices.Cells
import Derived.Test.YtmhiohnkjpglfaaIs2
import Derived.Test.YtmhiohnkjpglfaaRows
import Derived.IntWalk
import Derived.Laws.Cover3
import Derived.Test.YtmhiohnkjpglfaaIs1
import Derived.Lib.SlicesCompact
import Derived.Sort.Row
import Derived.Sort.OwnSorted
import Derived.Lib.RowBridge
import Derived.Test.YtmhiohnkjpglfaaIs12
import Derived.Test.YtmhiohnkjpglfaaIs25
import Derived.Test.YtmhiohnkjpglfaaIs30
import Derived.Test.YtmhiohnkjpglfaaIs27

namespace Go.Proofs.Ytmhiohnkjpglfaa
open Go.RowKit Go.Shelf Plain

theorem bu_few:FewU upB:=by
 refine ⟨by decide,fun x hx=>?_⟩
 simp only [upB,List.mem_cons,List.not_mem_nil,or_false] at hx
 rcases hx with rfl|rfl|rfl|rfl|rfl
 ·exact ⟨fun i e hi he=>absurd hi (by simp [ndD,nod0]),by decide,by decide,by decide,by decide,by decide,fun e he=>by simp [ndD,nod0] at he⟩
 ·exact ⟨fun i e hi he=>absurd hi (by simp [ndD,nod0]),by decide,by decide,by decide,by decide,by decide,fun e he=>by simp [ndD,nod0] at he⟩
 ·exact ⟨fun i e hi he=>absurd hi (by simp [ndD,nod0]),by decide,by decide,by decide,by decide,by decide,fun e he=>by simp [ndD,nod0] at he⟩
 ·exact plain0
 ·exact plain0
def FinsP (w:World) (n:Nat) (l:List FinV) (e:Ending) (w':World):Prop:=∃A c,e=.returned (.slice A n c)∧RdE finEn w' (Under w'.heap.size) A n l∧Below w.heap.size w w'
theorem FinsO.p {w w':World} {l:List FinV} {n:Nat} {e:Ending} (h:FinsO w l e w') (hn:l.length=n):FinsP w n l e w':=by
 obtain ⟨A,m,c,h1,h2,h3⟩:=h
 obtain rfl:n=m:=by rw [←hn];exact h2.1
 exact ⟨A,c,h1,h2,h3⟩
end Go.Proofs.Ytmhiohnkjpglfaa

