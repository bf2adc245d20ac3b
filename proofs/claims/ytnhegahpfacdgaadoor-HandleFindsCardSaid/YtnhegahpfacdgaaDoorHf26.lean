import Derived.Shelf.Strings.Builder1
import Derived.Shelf.Strings.Builder2
import Derived.Shelf.Strings.Prefix
import Derived.Test.YtnhegahpfacdgaaDoorProg
import Derived.Test.YtnhegahpfacdgaaDoorHf1
import Derived.Test.YtnhegahpfacdgaaDoorHf3
import Derived.Test.YtnhegahpfacdgaaDoorHf16
import Derived.Test.YtnhegahpfacdgaaDoorHf13
import Derived.Test.YtnhegahpfacdgaaDoorHf15
import Derived.Test.YtnhegahpfacdgaaDoorHf10
import Derived.Test.YtnhegahpfacdgaaDoorHf24
import Derived.Test.YtnhegahpfacdgaaDoorHf17
import Derived.Deep.Cut
import Derived.Deep.CutRange

namespace Go.Proofs
open Go.Shelf
def Tryd.lays166_ren:Go.Shelf.Ren:=⟨fun|166=>16|240=>33|276=>45|n=>n,fun|0=>0|3=>3|4=>4|5=>5|9=>9|20=>20|37=>39|70=>53|72=>55|75=>60|80=>64|164=>91|n=>n,fun|n=>n⟩
set_option maxRecDepth 100000 in
theorem Tryd.lays166 : Go.Proofs.Lays.n166 Tryd.prog Tryd.lays166_ren := {
 mixed:=by kernel_rfl
 f166:=by kernel_rfl
 f240:=by kernel_rfl
 f276:=by kernel_rfl
 t0:=by kernel_rfl
 a0:=fun w=>by kernel_rfl
 z0:=fun w=>by kernel_rfl
 v0:=fun w=>by kernel_rfl
 t3:=by kernel_rfl
 a3:=fun w=>by kernel_rfl
 z3:=fun w=>by kernel_rfl
 v3:=fun w=>by kernel_rfl
 t4:=by kernel_rfl
 a4:=fun w=>by kernel_rfl
 z4:=fun w=>by kernel_rfl
 v4:=fun w=>by kernel_rfl
 t9:=by kernel_rfl
 a9:=fun w=>by kernel_rfl
 z9:=fun w=>by kernel_rfl
 v9:=fun w=>by kernel_rfl
 t20:=by kernel_rfl
 a20:=fun w=>by kernel_rfl
 z20:=fun w=>by kernel_rfl
 v20:=fun w=>by kernel_rfl
 t37:=by kernel_rfl
 a37:=fun w=>by kernel_rfl
 z37:=fun w=>by kernel_rfl
 v37:=fun w=>by kernel_rfl
 t70:=by kernel_rfl
 a70:=fun w=>by kernel_rfl
 z70:=fun w=>by kernel_rfl
 v70:=fun w=>by kernel_rfl
 t72:=by kernel_rfl
 a72:=fun w=>by kernel_rfl
 z72:=fun w=>by kernel_rfl
 v72:=fun w=>by kernel_rfl
 t75:=by kernel_rfl
 a75:=fun w=>by kernel_rfl
 z75:=fun w=>by kernel_rfl
 v75:=fun w=>by kernel_rfl
 t164:=by kernel_rfl
 a164:=fun w=>by kernel_rfl
 z164:=fun w=>by kernel_rfl
 v164:=fun w=>by kernel_rfl}
theorem Tryd.Builder_Extra_166 : Builder.Extra Tryd.prog Tryd.lays166_ren := {
 sizeBuilder:=by kernel_rfl
 liesBuilder:=by kernel_rfl
 t5:=by kernel_rfl
 a5:=fun w=>by kernel_rfl
 z5:=fun w=>by kernel_rfl
 v5:=fun w=>by kernel_rfl
 infoByte:=by kernel_rfl
 cellsByte:=by kernel_rfl
 sizeByte:=by kernel_rfl
 neB5:=by decide}
open Go.RowKit in
theorem Tryd.Builder_WriteString (B b:Nat) (bs:List Value) (s:ByteArray) (w:World) (h:Lib.IsBuilder 55 5 B b bs w) (hlen:bs.length+s.size≤140737488355328) (hBw:B≤w.heap.size) :
  Calls Tryd.prog 16 #[.pointer (some ⟨b,0,none⟩),.string s] w fun e w'=>e=.returned (.tuple #[.int .i64 s.size,.nilIface])∧(Lib.BuilderAt 55 5 B b (.pointer (some ⟨b,0,none⟩)) (bs++Lib.strCells s) w'∧Below B w w'):=Any.Builder_WriteString Tryd.lays166 Tryd.Builder_Extra_166 B b bs s w h hlen hBw
end Go.Proofs

namespace Go.Proofs.YtnhegahpfacdgaaDoor
open Go.RowKit Plain

def oriC (o:OriV):List Value:=[.int .i64 o.1,.int .i64 o.2.1,.int .i64 o.2.2]
theorem ori_agg:∀w,(isAgg 23).run Tryd.prog w=.ok true w:=fun w=>by kernel_rfl
theorem ori_size:∀w,(Go.sizeOf 23).run Tryd.prog w=.ok 3 w:=fun w=>by kernel_rfl
end Go.Proofs.YtnhegahpfacdgaaDoor

