import Derived.Shelf.Strings.Builder1
import Derived.Shelf.Strings.Builder2
import Derived.Shelf.Strconv.ParseIntEmpty
import Derived.Shelf.LaysM
import Derived.Shelf.Strconv.Clone
import Derived.Shelf.Strconv.SyntaxError
import Derived.Shelf.LaysC
import Derived.Shelf.Strconv.ToError
import Derived.Shelf.Strconv.Lower
import Derived.Shelf.Strconv.RangeError
import Derived.Shelf.Strconv.ToErrorRange
import Derived.Shelf.Strconv.ParseUintEmpty
import Derived.Shelf.Strings.Prefix
import Derived.Shelf.Strings.Repeat
import Derived.Test.YtpndfahgflgocaaDoorProg
import Derived.Test.YtpndfahgflgocaaDoorXn16
import Derived.Test.YtpndfahgflgocaaDoorXn17
import Derived.Sort.OwnSorted
import Derived.Lib.RowBridge

namespace Go.Proofs
open Go.Shelf
def Tryd.lays169_ren:Go.Shelf.Ren:=⟨fun|169=>50|n=>n,fun|70=>105|9=>9|0=>0|72=>107|37=>35|127=>130|3=>3|5=>5|n=>n,fun|n=>n⟩
theorem Tryd.lays169 : Go.Proofs.Lays.n169 Tryd.prog Tryd.lays169_ren := {
 mixed:=by kernel_rfl
 f169:=Tryd.func50.trans (congrArg some (by kernel_rfl))
 t0:=Tryd.underlying0
 a0:=Tryd.isAgg0
 z0:=Tryd.sizeOf0
 v0:=Tryd.zeroValue0
 t3:=Tryd.underlying3
 a3:=Tryd.isAgg3
 z3:=Tryd.sizeOf3
 v3:=Tryd.zeroValue3
 t9:=Tryd.underlying9
 a9:=Tryd.isAgg9
 z9:=Tryd.sizeOf9
 v9:=Tryd.zeroValue9
 t37:=Tryd.underlying35
 a37:=Tryd.isAgg35
 z37:=Tryd.sizeOf35
 v37:=Tryd.zeroValue35
 t70:=Tryd.underlying105
 a70:=Tryd.isAgg105
 z70:=Tryd.sizeOf105
 v70:=Tryd.zeroValue105
 t72:=Tryd.underlying107
 a72:=Tryd.isAgg107
 z72:=Tryd.sizeOf107
 v72:=Tryd.zeroValue107
 t127:=Tryd.underlying130
 a127:=Tryd.isAgg130
 z127:=Tryd.sizeOf130
 v127:=Tryd.zeroValue130}
theorem Tryd.Builder_Extra_169 : Builder.Extra Tryd.prog Tryd.lays169_ren := {
 sizeBuilder:=by kernel_rfl
 liesBuilder:=by kernel_rfl
 t5:=Tryd.underlying5
 a5:=Tryd.isAgg5
 z5:=Tryd.sizeOf5
 v5:=Tryd.zeroValue5
 infoByte:=by kernel_rfl
 cellsByte:=by kernel_rfl
 sizeByte:=by kernel_rfl
 neB5:=by decide}
open Go.RowKit in
theorem Tryd.Builder_String_any (B b:Nat) (l:List UInt8) (w:World) (h:Lib.IsBuilder 107 5 B b (Lib.byteCells l) w) (hBw:B≤w.heap.size) :
  Calls Tryd.prog 50 #[.pointer (some ⟨b,0,none⟩)] w fun e w'=>e=.returned (.string ⟨l.toArray⟩)∧Below B w w':=Any.Builder_String_any Tryd.lays169 Tryd.Builder_Extra_169 B b l w h hBw
def Tryd.lays247_ren:Go.Shelf.Ren:=⟨fun|247=>59|287=>66|321=>77|322=>78|n=>n,fun|9=>9|3=>3|2=>2|75=>102|4=>4|167=>133|5=>5|53=>134|175=>135|46=>137|37=>35|0=>0|21=>21|80=>111|n=>n,fun|n=>n⟩
theorem Tryd.lays247 : Go.Proofs.Lays.n247 Tryd.prog Tryd.lays247_ren := {
 mixed:=by kernel_rfl
 f247:=Tryd.func59.trans (congrArg some (by kernel_rfl))
 f287:=Tryd.func66.trans (congrArg some (by kernel_rfl))
 f321:=Tryd.func77.trans (congrArg some (by kernel_rfl))
 f322:=Tryd.func78.trans (congrArg some (by kernel_rfl))
 t0:=Tryd.underlying0
 a0:=Tryd.isAgg0
 z0:=Tryd.sizeOf0
 v0:=Tryd.zeroValue0
 t2:=Tryd.underlying2
 a2:=Tryd.isAgg2
 z2:=Tryd.sizeOf2
 v2:=Tryd.zeroValue2
 t3:=Tryd.underlying3
 a3:=Tryd.isAgg3
 z3:=Tryd.sizeOf3
 v3:=Tryd.zeroValue3
 t4:=Tryd.underlying4
 a4:=Tryd.isAgg4
 z4:=Tryd.sizeOf4
 v4:=Tryd.zeroValue4
 t5:=Tryd.underlying5
 a5:=Tryd.isAgg5
 z5:=Tryd.sizeOf5
 v5:=Tryd.zeroValue5
 t9:=Tryd.underlying9
 a9:=Tryd.isAgg9
 z9:=Tryd.sizeOf9
 v9:=Tryd.zeroValue9
 t21:=Tryd.underlying21
 a21:=Tryd.isAgg21
 z21:=Tryd.sizeOf21
 v21:=Tryd.zeroValue21
 t37:=Tryd.underlying35
 a37:=Tryd.isAgg35
 z37:=Tryd.sizeOf35
 v37:=Tryd.zeroValue35
 t46:=Tryd.underlying137
 a46:=Tryd.isAgg137
 z46:=Tryd.sizeOf137
 v46:=Tryd.zeroValue137
 t53:=Tryd.underlying134
 a53:=Tryd.isAgg134
 z53:=Tryd.sizeOf134
 v53:=Tryd.zeroValue134
 t75:=Tryd.underlying102
 a75:=Tryd.isAgg102
 z75:=Tryd.sizeOf102
 v75:=Tryd.zeroValue102
 t167:=Tryd.underlying133
 a167:=Tryd.isAgg133
 z167:=Tryd.sizeOf133
 v167:=Tryd.zeroValue133
 t175:=Tryd.underlying135
 a175:=Tryd.isAgg135
 z175:=Tryd.sizeOf135
 v175:=Tryd.zeroValue135}
open Go.RowKit in
theorem Tryd.internal_strconv_ParseInt_empty (base bits:Int) (w:World) :
  Calls Tryd.prog 59 #[.string ⟨#[]⟩,.int .i64 base,.int .i64 bits] w fun e w'=>e=.returned (.tuple #[.int .i64 0,(.iface 133 (.int .i64 2))])∧w'=w:=Any.internal_strconv_ParseInt_empty Tryd.lays247 base bits w
def Tryd.laysC245_ren:Go.Shelf.Ren:=⟨fun|245=>60|279=>67|280=>68|281=>69|282=>70|316=>79|171=>81|205=>80|243=>90|246=>72|283=>82|284=>83|285=>84|286=>85|129=>92|317=>91|318=>93|319=>94|320=>95|337=>97|338=>98|n=>n,fun|9=>9|3=>3|75=>102|167=>133|4=>4|168=>138|210=>150|37=>35|0=>0|127=>130|145=>165|143=>163|2=>2|171=>153|53=>134|5=>5|173=>156|212=>168|51=>158|20=>20|213=>169|46=>137|232=>173|233=>174|80=>111|n=>n,fun|15=>1|16=>2|17=>3|18=>5|19=>6|n=>n⟩
theorem Tryd.laysC245 : Go.Proofs.LaysC.n245 Tryd.prog Tryd.laysC245_ren := {
 mixed:=by kernel_rfl
 f129:=Tryd.func92.trans (congrArg some (by kernel_rfl))
 f171:=Tryd.func81.trans (congrArg some (by kernel_rfl))
 f205:=Tryd.func80.trans (congrArg some (by kernel_rfl))
 f243:=Tryd.func90.trans (congrArg some (by kernel_rfl))
 f245:=Tryd.func60.trans (congrArg some (by kernel_rfl))
 f246:=Tryd.func72.trans (congrArg some (by kernel_rfl))
 f279:=Tryd.func67.trans (congrArg some (by kernel_rfl))
 f280:=Tryd.func68.trans (congrArg some (by kernel_rfl))
 f281:=Tryd.func69.trans (congrArg some (by kernel_rfl))
 f282:=Tryd.func70.trans (congrArg some (by kernel_rfl))
 f283:=Tryd.func82.trans (congrArg some (by kernel_rfl))
 f284:=Tryd.func83.trans (congrArg some (by kernel_rfl))
 f285:=Tryd.func84.trans (congrArg some (by kernel_rfl))
 f286:=Tryd.func85.trans (congrArg some (by kernel_rfl))
 f316:=Tryd.func79.trans (congrArg some (by kernel_rfl))
 f317:=Tryd.func91.trans (congrArg some (by kernel_rfl))
 f318:=Tryd.func93.trans (congrArg some (by kernel_rfl))
 f319:=Tryd.func94.trans (congrArg some (by kernel_rfl))
 f320:=Tryd.func95.trans (congrArg some (by kernel_rfl))
 f337:=Tryd.func97.trans (congrArg some (by kernel_rfl))
 f338:=Tryd.func98.trans (congrArg some (by kernel_rfl))
 t0:=Tryd.underlying0
 a0:=Tryd.isAgg0
 z0:=Tryd.sizeOf0
 v0:=Tryd.zeroValue0
 t2:=Tryd.underlying2
 a2:=Tryd.isAgg2
 z2:=Tryd.sizeOf2
 v2:=Tryd.zeroValue2
 t3:=Tryd.underlying3
 a3:=Tryd.isAgg3
 z3:=Tryd.sizeOf3
 v3:=Tryd.zeroValue3
 t4:=Tryd.underlying4
 a4:=Tryd.isAgg4
 z4:=Tryd.sizeOf4
 v4:=Tryd.zeroValue4
 t5:=Tryd.underlying5
 a5:=Tryd.isAgg5
 z5:=Tryd.sizeOf5
 v5:=Tryd.zeroValue5
 t9:=Tryd.underlying9
 a9:=Tryd.isAgg9
 z9:=Tryd.sizeOf9
 v9:=Tryd.zeroValue9
 t20:=Tryd.underlying20
 a20:=Tryd.isAgg20
 z20:=Tryd.sizeOf20
 v20:=Tryd.zeroValue20
 t37:=Tryd.underlying35
 a37:=Tryd.isAgg35
 z37:=Tryd.sizeOf35
 v37:=Tryd.zeroValue35
 t46:=Tryd.underlying137
 a46:=Tryd.isAgg137
 z46:=Tryd.sizeOf137
 v46:=Tryd.zeroValue137
 t51:=Tryd.underlying158
 a51:=Tryd.isAgg158
 z51:=Tryd.sizeOf158
 v51:=Tryd.zeroValue158
 t53:=Tryd.underlying134
 a53:=Tryd.isAgg134
 z53:=Tryd.sizeOf134
 v53:=Tryd.zeroValue134
 t75:=Tryd.underlying102
 a75:=Tryd.isAgg102
 z75:=Tryd.sizeOf102
 v75:=Tryd.zeroValue102
 t127:=Tryd.underlying130
 a127:=Tryd.isAgg130
 z127:=Tryd.sizeOf130
 v127:=Tryd.zeroValue130
 t143:=Tryd.underlying163
 a143:=Tryd.isAgg163
 z143:=Tryd.sizeOf163
 v143:=Tryd.zeroValue163
 t145:=Tryd.underlying165
 a145:=Tryd.isAgg165
 z145:=Tryd.sizeOf165
 v145:=Tryd.zeroValue165
 t167:=Tryd.underlying133
 a167:=Tryd.isAgg133
 z167:=Tryd.sizeOf133
 v167:=Tryd.zeroValue133
 t168:=Tryd.underlying138
 a168:=Tryd.isAgg138
 z168:=Tryd.sizeOf138
 v168:=Tryd.zeroValue138
 t171:=Tryd.underlying153
 a171:=Tryd.isAgg153
 z171:=Tryd.sizeOf153
 v171:=Tryd.zeroValue153
 t173:=Tryd.underlying156
 a173:=Tryd.isAgg156
 z173:=Tryd.sizeOf156
 v173:=Tryd.zeroValue156
 t210:=Tryd.underlying150
 a210:=Tryd.isAgg150
 z210:=Tryd.sizeOf150
 v210:=Tryd.zeroValue150
 t212:=Tryd.underlying168
 a212:=Tryd.isAgg168
 z212:=Tryd.sizeOf168
 v212:=Tryd.zeroValue168
 t213:=Tryd.underlying169
 a213:=Tryd.isAgg169
 z213:=Tryd.sizeOf169
 t232:=Tryd.underlying173
 a232:=Tryd.isAgg173
 z232:=Tryd.sizeOf173
 v232:=Tryd.zeroValue173
 t233:=Tryd.underlying174
 a233:=Tryd.isAgg174
 z233:=Tryd.sizeOf174
 v233:=Tryd.zeroValue174
 g15:=by kernel_rfl
 g16:=by kernel_rfl
 g17:=by kernel_rfl
 g18:=by kernel_rfl
 g19:=by kernel_rfl
 t80:=Tryd.underlying111
 a80:=Tryd.isAgg111
 z80:=Tryd.sizeOf111
 v80:=Tryd.zeroValue111
 i0:=by kernel_rfl
 i2:=by kernel_rfl
 i3:=by kernel_rfl
 i4:=by kernel_rfl
 i5:=by kernel_rfl
 i9:=by kernel_rfl
 i20:=by kernel_rfl
 i37:=by kernel_rfl
 i46:=by kernel_rfl
 i51:=by kernel_rfl
 i53:=by kernel_rfl
 i75:=by kernel_rfl
 i80:=by kernel_rfl
 i127:=by kernel_rfl
 i143:=by kernel_rfl
 i145:=by kernel_rfl
 i167:=by kernel_rfl
 i168:=by kernel_rfl
 i171:=by kernel_rfl
 i173:=by kernel_rfl
 i210:=by kernel_rfl
 i212:=by kernel_rfl
 i232:=by kernel_rfl
 i233:=by kernel_rfl
 m15:=by kernel_rfl
 m16:=by kernel_rfl
 m17:=by kernel_rfl
 m18:=by kernel_rfl
 m19:=by kernel_rfl
 c0:=by kernel_rfl
 c2:=by kernel_rfl
 c3:=by kernel_rfl
 c4:=by kernel_rfl
 c5:=by kernel_rfl
 c9:=by kernel_rfl
 c20:=by kernel_rfl
 c37:=by kernel_rfl
 c46:=by kernel_rfl
 c51:=by kernel_rfl
 c53:=by kernel_rfl
 c75:=by kernel_rfl
 c80:=by kernel_rfl
 c127:=by kernel_rfl
 c143:=by kernel_rfl
 c145:=by kernel_rfl
 c167:=by kernel_rfl
 c168:=by kernel_rfl
 c171:=by kernel_rfl
 c173:=by kernel_rfl
 c210:=by kernel_rfl
 c212:=by kernel_rfl
 c213:=by kernel_rfl
 c232:=by kernel_rfl
 c233:=by kernel_rfl}
open Go.RowKit in
theorem Tryd.strconv_toError_syntax (fn s:ByteArray) (base bits:Int) (ev:Value) (w:World) (hlim:s.size≤281474976710656) (hv:w.cell? ⟨1,0,none⟩=some ev) (hev:ev=.nilIface∨∃te pe,ev=.iface te pe) :
  Calls Tryd.prog 60 #[.string fn,.string s,.int .i64 base,.int .i64 bits,.iface 133 (.int .i64 2)] w fun e w'=>∃N,e=.returned (.iface 138 (.pointer (some ⟨N,0,none⟩)))∧w.heap.size≤N∧w'.heap[N]?=some (.cells #[.string fn,.string s,ev] 150 (0,0))∧Below w.heap.size w w':=Any.strconv_toError_syntax Tryd.laysC245 fn s base bits ev w hlim hv hev
def Tryd.lays321_ren:Go.Shelf.Ren:=⟨fun|321=>77|n=>n,fun|5=>5|n=>n,fun|n=>n⟩
theorem Tryd.lays321 : Go.Proofs.Lays.n321 Tryd.prog Tryd.lays321_ren := {
 mixed:=by kernel_rfl
 f321:=Tryd.func77.trans (congrArg some (by kernel_rfl))
 t5:=Tryd.underlying5
 a5:=Tryd.isAgg5
 z5:=Tryd.sizeOf5
 v5:=Tryd.zeroValue5}
open Go.RowKit in
theorem Tryd.internal_strconv_lower (c:Int) (w:World) :
  Calls Tryd.prog 77 #[.int .u8 c] w fun e w'=>e=.returned (.int .u8 (bits .or .u8 c 32))∧w'=w:=Any.internal_strconv_lower Tryd.lays321 c w
def Tryd.lays287_ren:Go.Shelf.Ren:=⟨fun|287=>66|321=>77|322=>78|n=>n,fun|9=>9|3=>3|53=>134|75=>102|4=>4|167=>133|5=>5|46=>137|37=>35|0=>0|21=>21|80=>111|n=>n,fun|n=>n⟩
theorem Tryd.lays287 : Go.Proofs.Lays.n287 Tryd.prog Tryd.lays287_ren := {
 mixed:=by kernel_rfl
 f287:=Tryd.func66.trans (congrArg some (by kernel_rfl))
 f321:=Tryd.func77.trans (congrArg some (by kernel_rfl))
 f322:=Tryd.func78.trans (congrArg some (by kernel_rfl))
 t0:=Tryd.underlying0
 a0:=Tryd.isAgg0
 z0:=Tryd.sizeOf0
 v0:=Tryd.zeroValue0
 t3:=Tryd.underlying3
 a3:=Tryd.isAgg3
 z3:=Tryd.sizeOf3
 v3:=Tryd.zeroValue3
 t4:=Tryd.underlying4
 a4:=Tryd.isAgg4
 z4:=Tryd.sizeOf4
 v4:=Tryd.zeroValue4
 t5:=Tryd.underlying5
 a5:=Tryd.isAgg5
 z5:=Tryd.sizeOf5
 v5:=Tryd.zeroValue5
 t9:=Tryd.underlying9
 a9:=Tryd.isAgg9
 z9:=Tryd.sizeOf9
 v9:=Tryd.zeroValue9
 t21:=Tryd.underlying21
 a21:=Tryd.isAgg21
 z21:=Tryd.sizeOf21
 v21:=Tryd.zeroValue21
 t37:=Tryd.underlying35
 a37:=Tryd.isAgg35
 z37:=Tryd.sizeOf35
 v37:=Tryd.zeroValue35
 t46:=Tryd.underlying137
 a46:=Tryd.isAgg137
 z46:=Tryd.sizeOf137
 v46:=Tryd.zeroValue137
 t53:=Tryd.underlying134
 a53:=Tryd.isAgg134
 z53:=Tryd.sizeOf134
 v53:=Tryd.zeroValue134
 t75:=Tryd.underlying102
 a75:=Tryd.isAgg102
 z75:=Tryd.sizeOf102
 v75:=Tryd.zeroValue102
 t167:=Tryd.underlying133
 a167:=Tryd.isAgg133
 z167:=Tryd.sizeOf133
 v167:=Tryd.zeroValue133}
open Go.RowKit in
theorem Tryd.internal_strconv_ParseUint_empty (base bits:Int) (w:World) :
  Calls Tryd.prog 66 #[.string ⟨#[]⟩,.int .i64 base,.int .i64 bits] w fun e w'=>e=.returned (.tuple #[.int .u64 0,.iface 133 (.int .i64 2)])∧w'=w:=Any.internal_strconv_ParseUint_empty Tryd.lays287 base bits w
def Tryd.lays105_ren:Go.Shelf.Ren:=⟨fun|105=>63|212=>73|99=>74|165=>75|166=>48|170=>76|169=>50|263=>86|264=>87|206=>88|240=>61|241=>89|276=>71|277=>96|n=>n,fun|9=>9|3=>3|4=>4|20=>20|0=>0|46=>137|109=>143|5=>5|72=>107|76=>108|51=>158|146=>159|53=>134|148=>161|70=>105|37=>35|75=>102|127=>130|164=>141|80=>111|n=>n,fun|n=>n⟩
theorem Tryd.lays105 : Go.Proofs.Lays.n105 Tryd.prog Tryd.lays105_ren := {
 mixed:=by kernel_rfl
 f99:=Tryd.func74.trans (congrArg some (by kernel_rfl))
 f105:=Tryd.func63.trans (congrArg some (by kernel_rfl))
 f165:=Tryd.func75.trans (congrArg some (by kernel_rfl))
 f166:=Tryd.func48.trans (congrArg some (by kernel_rfl))
 f169:=Tryd.func50.trans (congrArg some (by kernel_rfl))
 f170:=Tryd.func76.trans (congrArg some (by kernel_rfl))
 f206:=Tryd.func88.trans (congrArg some (by kernel_rfl))
 f212:=Tryd.func73.trans (congrArg some (by kernel_rfl))
 f240:=Tryd.func61.trans (congrArg some (by kernel_rfl))
 f241:=Tryd.func89.trans (congrArg some (by kernel_rfl))
 f263:=Tryd.func86.trans (congrArg some (by kernel_rfl))
 f264:=Tryd.func87.trans (congrArg some (by kernel_rfl))
 f276:=Tryd.func71.trans (congrArg some (by kernel_rfl))
 f277:=Tryd.func96.trans (congrArg some (by kernel_rfl))
 t0:=Tryd.underlying0
 a0:=Tryd.isAgg0
 z0:=Tryd.sizeOf0
 v0:=Tryd.zeroValue0
 t3:=Tryd.underlying3
 a3:=Tryd.isAgg3
 z3:=Tryd.sizeOf3
 v3:=Tryd.zeroValue3
 t4:=Tryd.underlying4
 a4:=Tryd.isAgg4
 z4:=Tryd.sizeOf4
 v4:=Tryd.zeroValue4
 t5:=Tryd.underlying5
 a5:=Tryd.isAgg5
 z5:=Tryd.sizeOf5
 v5:=Tryd.zeroValue5
 t9:=Tryd.underlying9
 a9:=Tryd.isAgg9
 z9:=Tryd.sizeOf9
 v9:=Tryd.zeroValue9
 t20:=Tryd.underlying20
 a20:=Tryd.isAgg20
 z20:=Tryd.sizeOf20
 v20:=Tryd.zeroValue20
 t37:=Tryd.underlying35
 a37:=Tryd.isAgg35
 z37:=Tryd.sizeOf35
 v37:=Tryd.zeroValue35
 t46:=Tryd.underlying137
 a46:=Tryd.isAgg137
 z46:=Tryd.sizeOf137
 v46:=Tryd.zeroValue137
 t51:=Tryd.underlying158
 a51:=Tryd.isAgg158
 z51:=Tryd.sizeOf158
 v51:=Tryd.zeroValue158
 t53:=Tryd.underlying134
 a53:=Tryd.isAgg134
 z53:=Tryd.sizeOf134
 v53:=Tryd.zeroValue134
 t70:=Tryd.underlying105
 a70:=Tryd.isAgg105
 z70:=Tryd.sizeOf105
 v70:=Tryd.zeroValue105
 t72:=Tryd.underlying107
 a72:=Tryd.isAgg107
 z72:=Tryd.sizeOf107
 v72:=Tryd.zeroValue107
 t75:=Tryd.underlying102
 a75:=Tryd.isAgg102
 z75:=Tryd.sizeOf102
 v75:=Tryd.zeroValue102
 t76:=Tryd.underlying108
 a76:=Tryd.isAgg108
 z76:=Tryd.sizeOf108
 v76:=Tryd.zeroValue108
 t109:=Tryd.underlying143
 a109:=Tryd.isAgg143
 z109:=Tryd.sizeOf143
 v109:=Tryd.zeroValue143
 t127:=Tryd.underlying130
 a127:=Tryd.isAgg130
 z127:=Tryd.sizeOf130
 v127:=Tryd.zeroValue130
 t146:=Tryd.underlying159
 a146:=Tryd.isAgg159
 z146:=Tryd.sizeOf159
 v146:=Tryd.zeroValue159
 t148:=Tryd.underlying161
 a148:=Tryd.isAgg161
 z148:=Tryd.sizeOf161
 v148:=Tryd.zeroValue161
 t164:=Tryd.underlying141
 a164:=Tryd.isAgg141
 z164:=Tryd.sizeOf141
 v164:=Tryd.zeroValue141}
theorem Tryd.Builder_Extra_105 : Builder.Extra Tryd.prog Tryd.lays105_ren := {
 sizeBuilder:=by kernel_rfl
 liesBuilder:=by kernel_rfl
 t5:=Tryd.underlying5
 a5:=Tryd.isAgg5
 z5:=Tryd.sizeOf5
 v5:=Tryd.zeroValue5
 infoByte:=by kernel_rfl
 cellsByte:=by kernel_rfl
 sizeByte:=by kernel_rfl
 neB5:=by decide}
open Go.RowKit Go.Lib in
theorem Tryd.strings_Repeat (s:ByteArray) (c:Nat) (w:World) (hc:c≤9223372036854775807) (hlen:s.size*c≤140737488355328) :
  Calls Tryd.prog 63 #[.string s,.int .i64 c] w fun e w'=>e=.returned (.string ⟨(Lib.repeatL s.data.toList c).toArray⟩)∧Below w.heap.size w w':=Any.strings_Repeat Tryd.lays105 Tryd.Builder_Extra_105 s c w hc hlen
end Go.Proofs

namespace Go.Proofs.YtpndfahgflgocaaDoor
open Go.RowKit Go.Shelf Plain Go.Sort

set_option maxRecDepth 100000 in
set_option maxHeartbeats 1600000 in
theorem Reach_any {A F:Option Addr} {n c k d:Nat} {ns:List NodV} {ff:List Int} (w:World) (h:RdE nodEn w (Under w.heap.size) A n ns) (hf:RdE Enc.int w (Under w.heap.size) F k ff) (hM:Many ns) (hk:k≤1000) :
  Calls Tryd.prog 23 #[.agg #[.slice A n c],.slice F k d] w (BoolsRet w (reachL ns (walkW ns ff).1)):=by
 have hb1:=below_new (below_self w) (.cells #[.slice A n c] 26)
 have H1:=hide (h.on hb1)
 have HF1:=hide (hf.on hb1)
 have HB1:=hide hb1
 have HM:=hide hM
 clear h hf hb1
 go_enter Tryd.func23,Tryd.ntmps23
 go_wp2_with (first|(go_at_call 32;refine (walked_any _ H1.out HF1.out HM.out hk).mono ?_;rintro e w2 ⟨g,b,rfl,hw2,hb2⟩;have HW2:=hide hw2;have HB2:=hide (below_step HB1.out hb2);clear hw2 hb2)|(go_at_call 33;refine (reach_any _ HW2.out (walk_ok ns ff) HM.out).mono ?_;rintro e w3 ⟨A3,n3,c3,rfl,hn3,hr3,hb3,hf3⟩;have HR3:=hide hr3;have HF3:=hide hf3;clear hf3;have HB3:=hide (HB2.out.trans (hb3.mono HB2.out.size));clear hr3 hb3))
 go_ret
 exact ⟨A3,n3,c3,rfl,hn3,HR3.out,HB3.out,fun b o e=>Nat.le_trans HB2.out.size (HF3.out b o e)⟩
end Go.Proofs.YtpndfahgflgocaaDoor

