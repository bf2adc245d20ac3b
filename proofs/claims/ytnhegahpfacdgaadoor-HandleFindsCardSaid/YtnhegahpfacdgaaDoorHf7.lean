import Derived.Test.YtnhegahpfacdgaaDoorHf3
import Derived.Lib.ConvBytes
import Derived.Lib.BufferWrite

namespace Go.Proofs.YtnhegahpfacdgaaDoor
open Go.RowKit

def BoolB (w:World) (b:Bool) (x:Ending) (w':World):Prop:=x=.returned (.bool b)∧Below w.heap.size w w'
theorem BoolB.of {w w':World} {b:Bool} (h:Below w.heap.size w w'):BoolB w b (.returned (.bool b)) w':=⟨rfl,h⟩
theorem BoolB.eq {w w':World} {a b:Bool} (e:a=b) (h:Below w.heap.size w w'):BoolB w b (.returned (.bool a)) w':=⟨by rw [e],h⟩

theorem Bs.bytesWorld (w:World) (e:TypeId) (l:List UInt8):Bs (Lib.bytesWorld w e ⟨l.toArray⟩) (w.heap.size+1) (some ⟨w.heap.size,0,none⟩) l.length l:=by
 refine ⟨rfl,fun _=>⟨_,_,rfl,by omega,fun i x hx=>?_⟩⟩
 have hi:=(List.getElem?_eq_some_iff.1 hx).1
 rw [Nat.zero_add,Lib.bytesWorld_cell w e ⟨l.toArray⟩ i (by simpa [ByteArray.size] using hi)]
 simp only [List.getD,hx,Option.getD_some,bv]

end Go.Proofs.YtnhegahpfacdgaaDoor

